"""bigcorners.sources: books as texts, and texts as books [9.2]."""

import random
import unittest

from bigcorners.books import Book
from bigcorners.errors import BadBook, BadText
from bigcorners.sources import source, translated
from tests.things import nested, odd_things
from tests.writing import nested_body, random_books, slow_source, the_book

COUNTING = "cells 1\nroutine\nwhile 0 < c0\nsay c0\nset 0 c0-1\nend\n"
FULL = (
    "cells 2\nroutine\nset 0 c0+c1+1\nsay 2c0-3c1\nif c0 < c1\ncall 1\nelse\nsay -7\nend\nroutine\n"
    "while c0 = 4\nset 0 0\nend\n"
)


def line_of(text):
    """The line with which BadText is raised, or None."""
    try:
        translated(text)
    except BadText as error:
        return error.line
    return None


def part_of(text):
    """The part with which BadBook is raised, or None."""
    try:
        translated(text)
    except BadBook as error:
        return error.part
    return None


def saying(word, cells=2):
    """The SUM that a word tells in a say."""
    return translated("cells " + str(cells) + "\nroutine\nsay " + word + "\n").routines[0][0][1]


def random_terms(rng, cells):
    """A row of terms, and the SUM that it tells."""
    totals, word = [0] * (cells + 1), ""
    for at in range(rng.randint(1, 7)):
        sign = rng.choice("+-")
        many = rng.choice((0, 1, 1, 2, 10, 99, rng.randrange(150)))
        cell = rng.randrange(cells + 1)
        if at or sign == "-":
            word += sign
        if cell == cells:
            word += str(many)
        elif many == 1 and rng.random() < 0.5:
            word += "c" + str(cell)
        else:
            word += str(many) + "c" + str(cell)
        totals[cell] += many if sign == "+" else -many
    return word, tuple(totals)


class SourceTest(unittest.TestCase):
    def test_line_by_line(self):
        self.assertEqual(source(the_book()), COUNTING)
        for book in random_books(91, 300):
            self.assertEqual(source(book), slow_source(book))
            self.assertEqual(source(book), source(book))

    def test_all_forms(self):
        book = Book(2, (
            (
                ("set", 0, (1, 1, 1)), ("say", (2, -3, 0)),
                ("if", ("less", (1, 0, 0), (0, 1, 0)), (("call", 1),), (("say", (0, 0, -7)),)),
            ),
            (("while", ("same", (1, 0, 0), (0, 0, 4)), (("set", 0, (0, 0, 0)),)),),
        ))
        self.assertEqual(source(book), FULL)
        self.assertEqual(translated(FULL), book)

    def test_sums(self):
        for numbers, word in (
            ((0, 0, 0), "0"), ((1, 0, 0), "c0"), ((-1, 0, 0), "-c0"), ((0, 1, 0), "c1"), ((0, -1, 0), "-c1"),
            ((1, 1, 1), "c0+c1+1"), ((-1, -1, -1), "-c0-c1-1"), ((1000, -1000, 1000), "1000c0-1000c1+1000"),
            ((-1000, 1000, -1000), "-1000c0+1000c1-1000"), ((0, 0, 1), "1"), ((0, 0, -1), "-1"), ((0, 2, -1), "2c1-1"),
            ((2, 0, 5), "2c0+5"), ((0, 0, 1000), "1000"), ((0, 0, -1000), "-1000"), ((1, -1, 0), "c0-c1"),
        ):
            text = "cells 2\nroutine\nsay " + word + "\n"
            self.assertEqual(source(Book(2, ((("say", numbers),),))), text)
            self.assertEqual(saying(word), numbers)

    def test_empty_bodies(self):
        test = ("less", (0, 0), (0, 0))
        for body, lines in (
            ((), ""), ((("if", test, (), ()),), "if 0 < 0\nelse\nend\n"),
            ((("while", test, ()),), "while 0 < 0\nend\n"), ((("if", test, (("while", test, ()),), ()),),
                "if 0 < 0\nwhile 0 < 0\nend\nelse\nend\n"),
            ((("if", test, (), (("say", (0, 0)),)),), "if 0 < 0\nelse\nsay 0\nend\n"),
        ):
            book = Book(1, (body, (), body))
            text = "cells 1\nroutine\n" + lines + "routine\nroutine\n" + lines
            self.assertEqual(source(book), text)
            self.assertEqual(translated(text), book)

    def test_nothing_is_changed(self):
        for book in random_books(92, 30):
            before = repr((book.cells, book.routines))
            source(book)
            self.assertEqual(repr((book.cells, book.routines)), before)


class TranslatedTest(unittest.TestCase):
    def test_of_sources(self):
        self.assertEqual(translated(COUNTING), the_book())
        for book in random_books(93, 300):
            again = translated(source(book))
            self.assertIs(type(again), Book)
            self.assertEqual(again, book)
            self.assertEqual(translated(source(book)), again)
        for deep in range(1, 9):
            for word in ("if", "while"):
                book = Book(1, (nested_body(deep, word),))
                self.assertEqual(translated(source(book)), book)

    def test_rows_of_terms(self):
        rng = random.Random(94)
        for _ in range(1500):
            cells = rng.randint(1, 4)
            word, numbers = random_terms(rng, cells)
            if all(abs(number) <= 1000 for number in numbers):
                self.assertEqual(saying(word, cells), numbers, word)

    def test_rows_of_terms_by_hand(self):
        for word, numbers in (
            ("0", (0, 0, 0)), ("-0", (0, 0, 0)), ("0c1", (0, 0, 0)), ("c0-c0", (0, 0, 0)), ("-c1+c0", (1, -1, 0)),
            ("1+c0+1", (1, 0, 2)), ("3-c0-5", (-1, 0, -2)), ("c0+c0+c0", (3, 0, 0)), ("2c1+3c1", (0, 5, 0)),
            ("1c0", (1, 0, 0)), ("0-0+0", (0, 0, 0)), ("-0c0-0c1", (0, 0, 0)),
            ("1000c0+1000c1+1000", (1000, 1000, 1000)), ("999999999-999999999", (0, 0, 0)),
            ("999999999c0-999999998c0", (1, 0, 0)), ("5-c1-5", (0, -1, 0)),
            ("c0+" * 3000 + "0-" + "c0-" * 2999 + "0", (1, 0, 0)),
        ):
            self.assertEqual(saying(word), numbers, word[:40])

    def test_sums_in_all_statements(self):
        for line, statement in (
            ("set 1 1+c0+1", ("set", 1, (1, 0, 2))), ("say -c0+c0", ("say", (0, 0, 0))),
            ("while 2-c0 < c1+c1\nend", ("while", ("less", (-1, 0, 2), (0, 2, 0)), ())),
            ("if 0 = -3c0\nelse\nend", ("if", ("same", (0, 0, 0), (-3, 0, 0)), (), ())),
        ):
            self.assertEqual(translated("cells 2\nroutine\n" + line + "\n").routines, ((statement,),))

    def test_cells_from_1_to_4(self):
        for cells in range(1, 5):
            self.assertEqual(translated("cells " + str(cells) + "\nroutine\n"), Book(cells, ((),)))


class BadTextTest(unittest.TestCase):
    def test_no_string(self):
        things = odd_things() + [0, 1, 10 ** 19, (), (COUNTING,), [COUNTING], COUNTING.encode(), nested(39, COUNTING)]
        for thing in things:
            if not isinstance(thing, str):
                self.assertEqual(line_of(thing), 0)

    def test_first_line(self):
        for line in (
            "", " ", "cells", "cells ", "cells 0", "cells 5", "cells 01", "cells 1 1", "cells  1", " cells 1",
            "cells 1 ", "cells +1", "cells -1", "cells one", "cells 1234567890", "cells 10", "Cells 1", "cell 1",
            "routine", "say 0", "end", "cells1", "cells c0", "cells 1;",
        ):
            for rest in ("routine\n", "", "routine\nsay 0\n", "x", "else\n"):
                self.assertEqual(line_of(line + "\n" + rest), 1, line)
        self.assertEqual(line_of(""), 1)
        self.assertEqual(line_of("cells 1"), 1)
        self.assertEqual(line_of("x" * 20000), 1)

    def test_lines_that_have_no_form(self):
        wrong = [
            "", " ", "  ", "set", "set 0", "set 0 1 2", "set  0 1", "set 0  1", " set 0 1", "set 0 1 ", "set 00 1",
            "set +0 1", "set -1 1", "set c0 1", "set 1234567890 1", "set 0 ", "Set 0 1", "say", "say ", "say 1 2",
            "say  1", " say 1", "say 1 ", "says 1", "call", "call ", "call 0 0", "call 00", "call -1", "call +0",
            "call c0", "call 1234567890", "call  0", "if", "if 0", "if 0 <", "if 0 < 0 0", "if 0 > 0", "if 0 <= 0",
            "if 0 == 0", "if 0<0", "if 0 < ", "if < 0 0", "if  0 < 0", "if 0  < 0", " if 0 < 0", "if 0 < 0 ", "while",
            "while 0 < 0 < 0", "while 0 ! 0", "while 0 less 0", "while 0 same 0", "while 0<0", "while 0 < ",
            "while 0 <  0", "While 0 < 0", "routine ", " routine", "routine 0", "routines", "Routine", "cells 1",
            "cells 2", "else", "end", "else ", "end ", "begin", "join", "0", "c0", "say;0", "if 0 <\t0",
            "set 0 c0 + 1", "say c 0", "say - 1",
        ]
        for line in wrong:
            self.assertEqual(line_of("cells 2\nroutine\n" + line + "\n"), 3, line)
            self.assertEqual(line_of("cells 2\nroutine\nsay 0\nroutine\n" + line + "\nend\n"), 5, line)
            if line != "end":
                self.assertEqual(line_of("cells 2\nroutine\nwhile 0 < 0\nsay 0\n" + line + "\n"), 5, line)

    def test_words_that_are_no_sums(self):
        wrong = [
            "", "+", "-", "+1", "+c0", "--1", "-+1", "++1", "1+", "1-", "c0+", "c0-", "1++1", "1--1", "1+-1", "1-+1",
            "c", "-c", "1c", "c0c1", "1c0c1", "c2", "c3", "c9", "1c2", "c00", "c01", "c-1", "c+1", "00", "01", "01c0",
            "00c0", "1234567890", "c0+01", "1234567890c0", "c1234567890", "c0+c2", "c0-00", "0x1", "1.0", "1e3", "C0",
            "c0*2", "2*c0", "c0/1", "(1)", "1_0", "one", "never", "c0,c1", "c0;", "1+c", "1+2c", "0c", "0c2", "-",
            "-c2", "1-1234567890", "<", "=", "c0<c1", "c0x",
        ]
        for word in wrong:
            for line in (
                "set 0 " + word, "say " + word, "if " + word + " < 0", "if 0 < " + word, "if " + word + " = 0",
                "while 0 = " + word, "while " + word + " < c0",
            ):
                self.assertEqual(line_of("cells 2\nroutine\nsay 0\n" + line + "\n"), 4, line)

    def test_cells_in_a_sum_are_below_those_of_the_book(self):
        for cells in range(1, 5):
            for cell in range(7):
                text = "cells " + str(cells) + "\nroutine\nsay 2c" + str(cell) + "\n"
                self.assertEqual(line_of(text), None if cell < cells else 3)

    def test_lines_that_can_not_stand_there(self):
        for text, line in (
            ("cells 1\nsay 0\nroutine\n", 2), ("cells 1\nend\n", 2), ("cells 1\nelse\n", 2), ("cells 1\nif 0 < 0\n", 2),
            ("cells 1\ncall 0\n", 2), ("cells 1\nset 0 0\n", 2), ("cells 1\nwhile 0 < 0\nend\n", 2),
            ("cells 1\ncells 1\n", 2), ("cells 1\nroutine\ncells 1\n", 3), ("cells 1\nroutine\nelse\n", 3),
            ("cells 1\nroutine\nend\n", 3), ("cells 1\nroutine\nwhile 0 < 0\nelse\nend\n", 4),
            ("cells 1\nroutine\nif 0 < 0\nend\n", 4), ("cells 1\nroutine\nif 0 < 0\nelse\nelse\nend\n", 5),
            ("cells 1\nroutine\nif 0 < 0\nelse\nend\nend\n", 6), ("cells 1\nroutine\nif 0 < 0\nelse\nend\nelse\n", 6),
            ("cells 1\nroutine\nwhile 0 < 0\nend\nend\n", 5), ("cells 1\nroutine\nif 0 < 0\nwhile 0 < 0\nelse\n", 5),
            ("cells 1\nroutine\nwhile 0 < 0\nif 0 < 0\nend\n", 5), ("cells 1\nroutine\nif 0 < 0\nroutine\n", 4),
            ("cells 1\nroutine\nif 0 < 0\nelse\nroutine\nend\n", 5),
            ("cells 1\nroutine\nwhile 0 < 0\nroutine\nend\n", 4),
            ("cells 1\nroutine\nif 0 < 0\nelse\nif 0 < 0\nend\n", 6),
            ("cells 1\nroutine\nwhile 0 < 0\nend\nroutine\nend\n", 6),
        ):
            self.assertEqual(line_of(text), line, text)

    def test_what_lacks_at_the_end(self):
        for text, line in (
            ("cells 1\nroutine\nif 0 < 0\n", 4), ("cells 1\nroutine\nif 0 < 0\nsay 0\n", 5),
            ("cells 1\nroutine\nif 0 < 0\nelse\n", 5), ("cells 1\nroutine\nwhile 0 < 0\n", 4),
            ("cells 1\nroutine\nwhile 0 < 0\nwhile 0 < 0\nend\n", 6), ("cells 1\nroutine\nif 0 < 0\nelse\nend", 5),
            ("cells 1\nroutine", 2), ("cells 1\nroutine\nsay 0", 3), ("cells 1\nroutine\nwhile 0 < 0\nend", 4),
            ("cells 1\nroutine\nsay 9999", 3), ("cells 1\nx", 2),
        ):
            self.assertEqual(line_of(text), line, text)

    def test_behind_the_last_line_feed(self):
        for more in ("x", " ", "end", "routine", "say 0", "cells 1"):
            self.assertEqual(line_of(COUNTING + more), 7)
            self.assertEqual(line_of(FULL + more), 14)
        self.assertEqual(line_of(COUNTING[:-1]), 6)

    def test_the_first_line_is_told(self):
        self.assertEqual(line_of("cells 1\nroutine\nsay x\nsay y\nfoo"), 3)
        self.assertEqual(line_of("cells 1\nroutine\nif 0 < 0\nend\nend"), 4)
        lines = FULL.split("\n")[:-1]
        for at in range(len(lines)):
            text = "".join(line + "\n" for line in lines[:at] + ["?"] + lines[at + 1:]) + "x"
            self.assertEqual(line_of(text), at + 1)

    def test_lines_left_out_and_told_twice(self):
        lines = FULL.split("\n")[:-1]
        left_out = [1, 2, None, None, 6, None, 8, None, 9, None, 12, None, 13]
        for at, line in enumerate(left_out):
            text = "".join(row + "\n" for row in lines[:at] + lines[at + 1:])
            if at == 9:
                # One routine instead of two: what is called is none of the book's.
                self.assertEqual(part_of(text), ("routine", 0))
            else:
                self.assertEqual(line_of(text), line, (at, text))


class BadBookTest(unittest.TestCase):
    def test_without_routines(self):
        for cells in range(1, 5):
            self.assertEqual(part_of("cells " + str(cells) + "\n"), ("routines",))

    def test_six_routines(self):
        self.assertIsNone(part_of("cells 1\n" + "routine\n" * 5))
        self.assertEqual(part_of("cells 1\n" + "routine\n" * 6), ("routines",))
        self.assertEqual(part_of("cells 1\n" + "routine\nset 9 0\n" * 6), ("routines",))
        self.assertEqual(part_of("cells 1\n" + "routine\n" * 2000), ("routines",))

    def test_cells_and_routines_of_any_figures(self):
        for number in ("1", "2", "9", "10", "123456789", "999999999"):
            self.assertEqual(part_of("cells 1\nroutine\nsay 0\nroutine\nset " + number + " 0\n"), ("routine", 1))
            if number != "1":
                self.assertEqual(part_of("cells 1\nroutine\nsay 0\nroutine\ncall " + number + "\n"), ("routine", 1))
        self.assertIsNone(part_of("cells 1\nroutine\nset 0 0\nroutine\ncall 1\n"))

    def test_sums_beyond_a_thousand(self):
        for word in ("1001", "-1001", "1001c0", "-1001c0", "999999999", "500+501", "c0+1000c0", "-1000-1",
            "999999999c0"):
            self.assertEqual(part_of("cells 1\nroutine\nroutine\nsay " + word + "\n"), ("routine", 1))
        for word in ("1000", "-1000", "1000c0", "1001-1", "2000c0-1000c0", "-1001+1"):
            self.assertIsNone(part_of("cells 1\nroutine\nroutine\nsay " + word + "\n"))

    def test_too_many_places(self):
        self.assertIsNone(part_of("cells 1\nroutine\n" + "say 0\n" * 38))
        self.assertEqual(part_of("cells 1\nroutine\n" + "say 0\n" * 39), ("routine", 0))
        self.assertEqual(part_of("cells 1\nroutine\nroutine\n" + "say 0\n" * 3000), ("routine", 1))
        self.assertEqual(part_of("cells 1\nroutine\n" + "if 0 < 0\nelse\nend\n" * 20), ("routine", 0))

    def test_bodies_too_deep(self):
        for many in (7, 8, 9, 100, 500, 1200):
            expected = None if many == 7 else ("routine", 1)
            text = "cells 1\nroutine\nroutine\n" + "while 0 < 0\n" * many + "end\n" * many
            self.assertEqual(part_of(text), expected)
            # Without the last end, that lacks behind all lines.
            self.assertEqual(line_of(text[:-4]), 2 * many + 3)
        for many in (100, 900):
            text = "cells 1\nroutine\n" + "if 0 < 0\nelse\n" * many + "end\n" * many
            self.assertEqual(part_of(text), ("routine", 0))
            text = "cells 1\nroutine\n" + "if 0 < 0\n" * many + "else\nend\n" * many
            self.assertEqual(part_of(text), ("routine", 0))

    def test_whiles_by_the_hundred_that_lack_an_end(self):
        for many in (100, 1000, 1600):
            text = "cells 1\nroutine\n" + "while 0 < 0\n" * many
            self.assertEqual(line_of(text), many + 3)
            self.assertEqual(line_of(text + "routine\n"), many + 3)

    def test_bad_text_ahead_of_bad_book(self):
        self.assertEqual(line_of("cells 1\nroutine\nset 9 0\nx\n"), 4)
        self.assertEqual(line_of("cells 1\n" + "routine\n" * 9 + "end\n"), 11)
        self.assertEqual(line_of("cells 1\nx"), 2)
