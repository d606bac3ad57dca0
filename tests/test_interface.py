"""What the document's interface lists exists under its name and takes what is listed; test_errors reads the errors."""

import importlib
import inspect
import unittest

FUNCTIONS = {
    "steps": ["told(book, word)", "exchanged(book, changes)"],
    "texts": ["written(book)", "read(text)"],
    "plain": ["run(book, call)", "used(book, call)", "steps_of(book, call)"],
    "reach": ["may_use(steps, book)", "chain(steps, book, word)"],
    "quiet": ["seen(one, other, word)", "Hidden()", "Shown(words)"],
    "papers": ["Let(witnesses)", "Barred(reasons)"],
    "judging": ["judged(editions, views)", "stands(editions, view)"],
    "house": ["opened(book)"],
}

METHODS = {
    ("quiet", "Hidden"): ["shows(self, one, other, word)"],
    ("quiet", "Shown"): ["shows(self, one, other, word)"],
    ("papers", "Let"): ["shows(self, editions, views)"],
    ("papers", "Barred"): ["shows(self, editions, views)"],
    ("house", "House"): ["begin(self, name, call)", "step(self, name)", "drop(self, name)", "change(self, changes)",
                         "barring(self, changes)", "wait(self, changes)", "spread(self, changes)", "back(self)",
                         "move(self, name)", "behind(self)", "under_way(self)", "names(self)", "views(self)",
                         "said_by(self, name)", "end_of(self, name)", "edition_of(self, name)", "witness(self, name)",
                         "newest(self)", "told_edition(self, count)", "told_book(self)", "waits(self)"],
}

BASES = {"quiet": ("Quiet", ["Hidden", "Shown"]), "papers": ("Paper", ["Let", "Barred"])}


def module(name):
    """The module of the package."""
    return importlib.import_module(f"midstride.{name}")


class Interface(unittest.TestCase):

    def test_functions_and_classes(self):
        for name, listed in FUNCTIONS.items():
            for one in listed:
                called = one.partition("(")[0]
                self.assertEqual(called + str(inspect.signature(getattr(module(name), called))), one)

    def test_methods_stand_in_the_class_itself(self):
        for (name, kind), listed in METHODS.items():
            for one in listed:
                called = one.partition("(")[0]
                method = vars(getattr(module(name), kind))[called]
                self.assertEqual(called + str(inspect.signature(method)), one)

    def test_base_classes(self):
        for name, (base, kinds) in BASES.items():
            for kind in kinds:
                self.assertEqual(getattr(module(name), kind).__bases__, (getattr(module(name), base),))

    def test_fields_are_set_when_the_object_is_created(self):
        self.assertEqual(vars(module("quiet").Shown(["a"])), {"words": ["a"]})
        self.assertEqual(vars(module("papers").Let([("a", 0)])), {"witnesses": [("a", 0)]})
        self.assertEqual(vars(module("papers").Barred([("a", [])])), {"reasons": [("a", [])]})


if __name__ == "__main__":
    unittest.main()
