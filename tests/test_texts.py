"""How books are written, which texts are read, and what is refused."""

import copy
import random
import unittest

from midstride.errors import BadBook, BadText
from midstride.texts import read, written
from tests.samples import BODIES, HUGE, ODDMENTS, Refusing, WORDS, deep_list, drawn_book, endless_list, no_books

NINE = [("say",), ("hear",), ("plus", -7), ("times", 0), ("turn", 99), ("ask", "b"), ("odd", "abcdefgh"),
        ("end",), ("say",)]

NINE_WRITTEN = "say; hear; plus -7; times 0; turn 99; ask b; odd abcdefgh; end; say"

BOOK = [("a", NINE), ("ab", []), ("b", [("ask", "a")]), ("zzzzzzzz", [("say",), ("end",)])]

BOOK_WRITTEN = f"a: {NINE_WRITTEN}\nab:\nb: ask a\nzzzzzzzz: say; end\n"

# Signs that are no blanks, though some of them look so or part rows elsewhere.
OTHER_SIGNS = ["\t", "\r", "\x0b", "\x0c", "\x00", "\x1c", "\x1d", "\x1e", "\x1f", "\x7f", "_", ".", ",", "\\"]


def blanks(chance):
    """No, one or many blanks, as chance has it."""
    return " " * chance.choice([0, 0, 1, 2, 5])


def loosely_written(book, chance):
    """A text of the book, with blanks, empty rows, remarks and turns of rows as chance has it."""
    rows = []
    for word, body in book:
        steps = ";".join(blanks(chance) + " ".join(str(part) for part in step) + blanks(chance) for step in body)
        rows.append(blanks(chance) + word + blanks(chance) + ":" + blanks(chance) + steps + blanks(chance))
    for _ in range(chance.randrange(4)):
        rows.append(blanks(chance) + chance.choice(["", "--", "-- a: say", "--a", "---", "-- : ; \t"]))
    chance.shuffle(rows)
    return "\n".join(rows) + chance.choice(["", "\n"])


class Written(Refusing):

    def test_an_empty_book(self):
        self.assertEqual(written([]), "")

    def test_a_word_with_no_steps(self):
        self.assertEqual(written([("a", [])]), "a:\n")
        self.assertEqual(written([("abcdefgh", [])]), "abcdefgh:\n")

    def test_a_word_with_one_step(self):
        self.assertEqual(written([("a", [("say",)])]), "a: say\n")

    def test_a_word_with_nine_steps(self):
        self.assertEqual(written([("a", NINE)]), f"a: {NINE_WRITTEN}\n")

    def test_each_sort_of_step(self):
        for step, text in [(("say",), "say"), (("hear",), "hear"), (("end",), "end"), (("plus", 5), "plus 5"),
                           (("times", 5), "times 5"), (("turn", 5), "turn 5"), (("ask", "b"), "ask b"),
                           (("odd", "abcdefgh"), "odd abcdefgh")]:
            self.assertEqual(written([("a", [step])]), f"a: {text}\n")

    def test_numbers(self):
        for number, text in [(0, "0"), (1, "1"), (-1, "-1"), (9, "9"), (10, "10"), (-10, "-10"), (99, "99"),
                             (-99, "-99")]:
            for name in ["plus", "times", "turn"]:
                self.assertEqual(written([("a", [(name, number)])]), f"a: {name} {text}\n")

    def test_rows_stand_in_the_turn_of_the_words(self):
        self.assertEqual(written(BOOK), BOOK_WRITTEN)
        self.assertEqual(written([("a", []), ("aa", []), ("b", [])]), "a:\naa:\nb:\n")

    def test_a_text_is_told(self):
        self.assertIs(type(written([])), str)
        self.assertIs(type(written(BOOK)), str)

    def test_no_book(self):
        for book in no_books():
            self.refused(BadBook, written, book)

    def test_the_book_stays_as_it_was(self):
        book = copy.deepcopy(BOOK)
        written(book)
        self.assertEqual(book, BOOK)

    def test_a_book_changed_in_place_is_written_anew(self):
        book = [("a", [("say",)])]
        self.assertEqual(written(book), "a: say\n")
        book[0][1].append(("end",))
        self.assertEqual(written(book), "a: say; end\n")
        book[0][1].clear()
        self.assertEqual(written(book), "a:\n")


class Read(Refusing):

    def test_what_was_written(self):
        self.assertEqual(read(BOOK_WRITTEN), BOOK)
        for body in BODIES:
            for word in WORDS:
                self.assertEqual(read(written([(word, body)])), [(word, body)])

    def test_every_number(self):
        for name in ["plus", "times", "turn"]:
            for number in range(-99, 100):
                self.assertEqual(read(f"a: {name} {number}"), [("a", [(name, number)])])

    def test_every_length_of_word_and_body(self):
        for many in range(1, 9):
            self.assertEqual(read("a" * many + ":\n"), [("a" * many, [])])
        for many in range(1, 10):
            self.assertEqual(read("a:" + ";".join(["say"] * many)), [("a", [("say",)] * many)])

    def test_names_of_steps_are_words_too(self):
        self.assertEqual(read("say: ask end; odd ask\nend: say"),
                         [("end", [("say",)]), ("say", [("ask", "end"), ("odd", "ask")])])

    def test_texts_that_tell_nothing(self):
        for text in ["", "\n", "\n\n\n", " ", "    ", "  \n   \n", "--", "--\n", "-- a: say", "   -- a: say\n",
                     "--a: say", "---", "-- -- ;;::", "--\t\x00", "\n -- \n\n--\n", "--a: say\n--a: say"]:
            self.assertEqual(read(text), [], repr(text))

    def test_with_and_without_a_last_line_feed(self):
        for text in ["a: say", "a: say\n", "\na: say", "\n\na: say\n\n"]:
            self.assertEqual(read(text), [("a", [("say",)])])

    def test_rows_in_any_turn(self):
        rows = BOOK_WRITTEN.split("\n")
        for at in range(len(rows)):
            turned = rows[at:] + rows[:at]
            self.assertEqual(read("\n".join(turned)), BOOK)
            self.assertEqual(read("\n".join(turned[::-1])), BOOK)

    def test_rows_that_tell_nothing_among_others(self):
        self.assertEqual(read("-- b: end\na: say\n\n   \n  -- a: end\nb:\n--"), [("a", [("say",)]), ("b", [])])

    def test_blanks_around_the_word_and_each_step(self):
        for many in range(4):
            gap = " " * many
            for text in [f"{gap}a:say;plus 1", f"a{gap}:say;plus 1", f"a:{gap}say;plus 1", f"a:say{gap};plus 1",
                         f"a:say;{gap}plus 1", f"a:say;plus 1{gap}",
                         f"{gap}a{gap}:{gap}say{gap};{gap}plus 1{gap}"]:
                self.assertEqual(read(text), [("a", [("say",), ("plus", 1)])], text)
                self.assertEqual(read(text + "\n"), [("a", [("say",), ("plus", 1)])], text)

    def test_blanks_where_there_are_no_steps(self):
        for text in ["a:", "a: ", "a:    ", " a:", "a :", "  a  :  ", "a:\n", "  a  :  \n"]:
            self.assertEqual(read(text), [("a", [])], text)

    def test_very_many_blanks(self):
        gap = " " * 10000
        self.assertEqual(read(f"{gap}a{gap}:{gap}say{gap};{gap}plus 1{gap}\n{gap}\n{gap}--"),
                         [("a", [("say",), ("plus", 1)])])

    def test_drawn_books(self):
        chance = random.Random(4)
        for _ in range(500):
            book = drawn_book(chance)
            self.assertEqual(read(written(book)), book)
            self.assertEqual(read(loosely_written(book, chance)), book)

    def test_a_long_text(self):
        letters = "abcdefghijklmnopqrstuvwxyz"
        book = [(one + two, NINE) for one in letters for two in letters]
        self.assertEqual(read(written(book)), book)

    def test_the_kinds_that_are_told(self):
        book = read(BOOK_WRITTEN)
        self.assertIs(type(book), list)
        for pair in book:
            self.assertIs(type(pair), tuple)
            self.assertIs(type(pair[1]), list)
            for step in pair[1]:
                self.assertIs(type(step), tuple)

    def test_what_is_told_may_be_changed(self):
        book = read(BOOK_WRITTEN)
        for word, body in book:
            body.append(("hear",))
        book.clear()
        self.assertEqual(read(BOOK_WRITTEN), BOOK)


class NoTexts(Refusing):

    def refused_row(self, row):
        """The row is refused alone, and ahead of, between and behind others."""
        for text in [row, row + "\n", "b: say\n" + row, row + "\nb: say", "\n" + row + "\n\n", "b:\n" + row + "\nc:\n"]:
            self.refused(BadText, read, text)

    def refused_step(self, step):
        """The step is refused alone, and ahead of, between and behind others."""
        for row in [f"a: {step}", f"a: say; {step}", f"a: {step}; say", f"a: say; {step}; end"]:
            self.refused(BadText, read, row)

    def test_what_is_no_text(self):
        for thing in ODDMENTS + [0, 1, -1, HUGE, [], ["a: say"], (), ("a: say",), BOOK, deep_list(), endless_list()]:
            self.refused(BadText, read, thing)

    def test_no_colon_and_more_than_one(self):
        for row in ["a", "a say", "say", "-", "- a", ";", "a;", "a::", "a:: say", "::", "a: say: end", "a: say:",
                    ":a: say", "a: b: say", "a:say:", "a: ask b: c", "- -", "-:-:"]:
            self.refused_row(row)

    def test_no_word(self):
        for row in [":", " :", ": say", "  : say", ":;"]:
            self.refused_row(row)

    def test_wrong_words(self):
        for word in ["abcdefghi", "a" * 9, "a" * 5000, "A", "aB", "SAY", "a b", "a  b", "a1", "1", "-", "a-b", "a_b",
                     "a.", "`", "{", "@", "[", "a;", ";", "a,b", "'a'", "- --", "a--"]:
            self.refused_row(f"{word}: say")
            self.refused_row(f" {word} :")

    def test_a_word_twice(self):
        for text in ["a:\na:", "a: say\na: say", "a: say\na: end", "a:\nb:\na:", "a:\n a :", "b:\na: say\n--\n\na:\n"]:
            self.refused(BadText, read, text)

    def test_an_empty_step(self):
        for steps in [";", " ; ", ";say", "; say", "say;", "say; ", "say;;end", "say; ;end", "say;   ; end", ";;",
                      "say;end;", ";" * 5000]:
            self.refused_row(f"a:{steps}")
            self.refused_row(f"a: {steps}")

    def test_an_unknown_step(self):
        for step in ["walk", "Say", "SAY", "s", "sayy", "says", "a", "0", "1", "-1", "walk 1", "walk b", "use b",
                     "Plus 1", "ASK b", "--", "-- say", "say -- say", "'say'", "(say)", "say,", "say."]:
            self.refused_step(step)

    def test_a_part_too_few(self):
        for name in ["plus", "times", "turn", "ask", "odd"]:
            self.refused_step(name)

    def test_a_part_too_many(self):
        for name in ["say", "hear", "end"]:
            for part in ["1", "0", "b", "say", "end"]:
                self.refused_step(f"{name} {part}")
        for step in ["plus 1 1", "times 1 b", "turn 1 2 3", "ask b c", "odd b 1", "ask b b"]:
            self.refused_step(step)

    def test_parts_of_the_wrong_kind(self):
        for name in ["plus", "times", "turn"]:
            for part in ["b", "one", "-b", "1b", "b1", "1.0", "1e1", "0x1", "1_0", "1,0", "None", "True", "'1'"]:
                self.refused_step(f"{name} {part}")
        for name in ["ask", "odd"]:
            for part in ["1", "0", "-1", "A", "aB", "abcdefghi", "a" * 5000, "b1", "a-b", "a_b", "'a'"]:
                self.refused_step(f"{name} {part}")

    def test_two_blanks_or_more_or_none_between_the_parts(self):
        for name, part in [("plus", "1"), ("times", "0"), ("turn", "-1"), ("ask", "b"), ("odd", "b")]:
            for gap in ["", "  ", "   "]:
                self.refused_step(f"{name}{gap}{part}")
        self.refused_step("s ay")
        self.refused_step("plus - 1")
        self.refused_step("plus 1 0")

    def test_ten_steps_and_more(self):
        for many in [10, 11, 100]:
            self.refused_row("a:" + ";".join(["say"] * many))
            self.refused_row("a: " + "; ".join(["plus 1"] * many))

    def test_numbers_that_are_too_large(self):
        for number in ["100", "-100", "101", "-101", "990", "999", "-999", "1" * 20, "9" * 5000, "-" + "9" * 5000]:
            for name in ["plus", "times", "turn"]:
                self.refused_step(f"{name} {number}")

    def test_numbers_that_are_written_otherwise(self):
        for number in ["01", "-01", "00", "-00", "000", "001", "09", "-09", "099", "-099", "0" * 5000, "-0", "+0",
                       "+1", "+99", "-", "+", "--1", "-+1", "1-", "1+", "- "]:
            for name in ["plus", "times", "turn"]:
                self.refused_step(f"{name} {number}")

    def test_other_signs_in_place_of_blanks(self):
        for sign in OTHER_SIGNS:
            for row in [f"{sign}", f" {sign} ", f"{sign}a: say", f"a{sign}: say", f"a:{sign}say", f"a: say{sign}",
                        f"a: say{sign}; end", f"a: say;{sign}end", f"a: plus{sign}1", f"a: ask{sign}b", f"a:{sign}",
                        f"{sign}-- a", f"a: plus 1{sign}", f"a: plus {sign}1", f"a: ask {sign}b", f"a: ask b{sign}"]:
                self.refused_row(row)

    def test_a_line_feed_in_place_of_a_blank(self):
        for text in ["a\n: say", "a: plus\n1", "a: say;\nend", "a: say\n; end", "a: ask\nb"]:
            self.refused(BadText, read, text)

    def test_a_refused_list_stays_as_it_was(self):
        rows = ["a: say"]
        self.refused(BadText, read, rows)
        self.assertEqual(rows, ["a: say"])


if __name__ == "__main__":
    unittest.main()
