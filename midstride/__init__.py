"""Programs whose bodies are exchanged while many runners are in the midst of calls."""
