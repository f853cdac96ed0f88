"""bigcorners.books.Book: what makes a book, what makes none, what is kept, what is equal [6.1]."""

import unittest

from bigcorners.books import Book
from bigcorners.errors import BadBook, ChartError
from tests.things import nested, odd_things
from tests.writing import nested_body, random_books, the_book

TEST = ("less", (0, 0, 0), (1, 0, 0))
SAY = ("say", (0, 1, 2))


def part_of(cells, routines):
    """The part with which BadBook is raised, or None."""
    try:
        Book(cells, routines)
    except BadBook as error:
        return error.part
    return None


def of_body(body, cells=2):
    """The part of a book whose second routine of three has this body."""
    return part_of(cells, ((SAY[:1] + ((0,) * (cells + 1),),), body, ()))


def says(many):
    """A body of so many places."""
    return (("say", (0, 0, 0)),) * many


class RightTest(unittest.TestCase):
    def test_attributes(self):
        book = the_book()
        self.assertEqual(book.cells, 1)
        self.assertEqual(
            book.routines, ((("while", ("less", (0, 0), (1, 0)), (("say", (1, 0)), ("set", 0, (1, -1)))),),)
        )
        for book in random_books(31, 100):
            same = Book(book.cells, book.routines)
            self.assertEqual((same.cells, same.routines), (book.cells, book.routines))

    def test_limits(self):
        for cells in (1, 2, 3, 4):
            for many in (1, 2, 3, 4, 5):
                self.assertIsNone(part_of(cells, ((),) * many))
                self.assertIsNone(part_of(cells, ((("say", (1000,) * (cells + 1)),),) * many))
                self.assertIsNone(part_of(cells, ((("say", (-1000,) * (cells + 1)),),) * many))

    def test_each_statement(self):
        for statement in (
            ("set", 0, (1, 2, 3)), ("set", 1, (0, 0, 0)), ("say", (-1, 0, 1)), ("call", 0), ("call", 1), ("call", 2),
            ("if", TEST, (), ()), ("if", TEST, (SAY,), ()), ("if", ("same",) + TEST[1:], (), (SAY, SAY)),
            ("while", TEST, ()), ("while", ("same",) + TEST[1:], (SAY,)),
        ):
            self.assertIsNone(of_body((statement,)))
            self.assertIsNone(of_body((SAY, statement, statement)))

    def test_deep(self):
        for word in ("while", "if"):
            self.assertIsNone(part_of(1, (nested_body(8, word),)))
            self.assertEqual(part_of(1, (nested_body(9, word),)), ("routine", 0))
            self.assertEqual(part_of(1, ((), nested_body(9, word))), ("routine", 1))
        say = (("say", (0, 0)),)
        self.assertIsNone(part_of(1, (nested_body(8, "while", say),)))
        self.assertEqual(part_of(1, (nested_body(9, "while", say),)), ("routine", 0))
        test = ("less", (0, 0), (0, 0))
        self.assertIsNone(part_of(1, ((("if", test, (), nested_body(7)),),)))
        self.assertEqual(part_of(1, ((("if", test, (), nested_body(8)),),)), ("routine", 0))

    def test_places(self):
        self.assertIsNone(part_of(2, (says(38),)))
        self.assertEqual(part_of(2, (says(39),)), ("routine", 0))
        self.assertIsNone(part_of(2, (says(38),) * 5))
        self.assertEqual(part_of(2, (says(38), says(38), says(39), says(40))), ("routine", 2))
        for statement, cost in (
            (("set", 0, (0, 0, 0)), 1), (("call", 0), 1), (("if", TEST, (), ()), 2), (("while", TEST, ()), 1),
            (("if", TEST, (SAY,), (SAY, SAY)), 5), (("while", TEST, (SAY, ("while", TEST, (SAY,)))), 4),
            (("while", TEST, (("if", TEST, (("while", TEST, ()),), (SAY,)),)), 5),
        ):
            self.assertIsNone(part_of(2, (says(38 - cost) + (statement,),)))
            self.assertEqual(part_of(2, (says(39 - cost) + (statement,),)), ("routine", 0))

    def test_wide_books(self):
        self.assertEqual(part_of(1, (((("say", (0, 0)),) * 6000),)), ("routine", 0))
        self.assertEqual(part_of(1, ((),) * 20000), ("routines",))


class EqualTest(unittest.TestCase):
    def test_equal(self):
        books = random_books(32, 60)
        for one in books:
            for other in books:
                same = (one.cells, one.routines) == (other.cells, other.routines)
                self.assertIs(one == other, same)
                self.assertIs(one != other, not same)
            self.assertTrue(one == Book(one.cells, one.routines))

    def test_cells_count(self):
        self.assertFalse(Book(1, ((),)) == Book(2, ((),)))
        self.assertFalse(Book(1, ((),)) == Book(1, ((), ())))

    def test_nothing_of_another_kind(self):
        class Below(Book):
            pass

        class Twin:
            def __init__(self):
                self.cells, self.routines = 1, ((),)

        book = Book(1, ((),))
        for other in [(1, ((),)), [1, ((),)], Below(1, ((),)), Twin(), nested(40)] + odd_things()[:-5]:
            self.assertIs(book == other, False)
            self.assertIs(other == book, False)
            self.assertIs(book != other, True)

    def test_nothing_passed_is_changed(self):
        for book in random_books(33, 30):
            before = repr(book.routines)
            Book(book.cells, book.routines)
            self.assertEqual(repr(book.routines), before)
        wrong = [[["say", [0, 0]]]]
        with self.assertRaises(BadBook):
            Book(1, wrong)
        self.assertEqual(wrong, [[["say", [0, 0]]]])


class WrongTest(unittest.TestCase):
    def test_is_a_chart_error(self):
        with self.assertRaises(ChartError):
            Book(0, ())

    def test_cells(self):
        for cells in [0, 5, -1, 10 ** 19, -10 ** 19, (), (1,), "1", 1001] + odd_things():
            self.assertEqual(part_of(cells, ((),)), ("cells",))

    def test_routines(self):
        for routines in [(), ((),) * 6, [()], [], 0, 1, "routine", {0: ()}, range(3), nested(0)]:
            self.assertEqual(part_of(1, routines), ("routines",))
        for routines in odd_things():
            if isinstance(routines, tuple) and 1 <= len(routines) <= 5:
                expected = None if routines == ((),) else ("routine", 0)
            else:
                expected = ("routines",)
            self.assertEqual(part_of(1, routines), expected)

    def test_routine(self):
        wrong = [
            [], [SAY], list(SAY), SAY, "say", 0, 1, {0: SAY}, ((),), (SAY, ()), (SAY, 0), (SAY, None), (SAY, [SAY]),
            ("",), (("",),), (("says", SAY[1]),), (("SAY", SAY[1]),), (("else",),), (("end",),), ((0, SAY[1]),),
            ((None, SAY[1]),), ((True, SAY[1]),), ((("say",), SAY[1]),), ((b"say", SAY[1]),), (["say", SAY[1]],),
            (SAY[1],), ((SAY,),), (("begin",),), (("join",),),
        ]
        for body in wrong + odd_things():
            if body != ((),) or not isinstance(body, tuple):
                self.assertEqual(of_body(body), ("routine", 1), body)
        for word in ("", "until", "While", "whiles", "if", "else", "end", "set", "say", "call", "for", "less", b"while", None):
            self.assertEqual(of_body(((word, TEST, ()),)), ("routine", 1))
            if word != "if":
                self.assertEqual(of_body(((word, TEST, (), ()),)), ("routine", 1))
        for thing in odd_things():
            self.assertEqual(of_body((thing,)), ("routine", 1))
            self.assertEqual(of_body((SAY, thing, SAY)), ("routine", 1))
            self.assertEqual(of_body((SAY, (thing, SAY[1]))), ("routine", 1))

    def test_sums(self):
        good = (1, -1000, 1000)
        wrong = [
            (), good[:2], good + (0,), list(good), (1, 2, 1001), (1, -1001, 2), (1001, 0, 0), (True, 0, 0),
            (0, 0, False), (0, None, 0), ("1", 0, 0), (0, (0,), 0), ((0, 0, 0),), 0, None, "c0", {0: 1, 1: 1, 2: 1},
            range(3), (10 ** 19, 0, 0), (0, 0, -10 ** 19), b"abc",
        ] + odd_things() + [(0, thing, 0) for thing in odd_things()]
        for numbers in wrong:
            for statement in (
                ("set", 0, numbers), ("say", numbers), ("if", ("less", numbers, good), (), ()),
                ("if", ("less", good, numbers), (), ()), ("while", ("same", numbers, good), ()),
                ("while", ("same", good, numbers), ()), ("while", TEST, (("say", numbers),)),
                ("if", TEST, (("say", numbers),), ()), ("if", TEST, (), (("set", 1, numbers),)),
            ):
                self.assertEqual(of_body((statement,)), ("routine", 1))
            self.assertIsNone(of_body((("say", good),)))

    def test_sums_have_one_number_more_than_there_are_cells(self):
        for cells in (1, 2, 3, 4):
            for many in range(8):
                expected = None if many == cells + 1 else ("routine", 0)
                self.assertEqual(part_of(cells, ((("say", (7,) * many),),)), expected)

    def test_tests(self):
        wrong = [
            (), TEST[:2], TEST + ((0, 0, 0),), list(TEST), ("more",) + TEST[1:], ("Less",) + TEST[1:],
            ("<",) + TEST[1:], ("",) + TEST[1:], (None,) + TEST[1:], (0,) + TEST[1:], (b"less",) + TEST[1:],
            (("less",),) + TEST[1:], TEST[1:], "less", (TEST,), ("lesssame",) + TEST[1:], (["less"],) + TEST[1:],
        ] + odd_things() + [(thing,) + TEST[1:] for thing in odd_things()]
        for test in wrong:
            self.assertEqual(of_body((("if", test, (), ()),)), ("routine", 1))
            self.assertEqual(of_body((("while", test, ()),)), ("routine", 1))

    def test_cells_and_routines_that_there_are_none_of(self):
        for cell in [2, 3, -1, 10 ** 19, True, False] + odd_things():
            self.assertEqual(of_body((("set", cell, (0, 0, 0)),)), ("routine", 1))
        for routine in [3, 4, 5, -1, 10 ** 19, True, False] + odd_things():
            self.assertEqual(of_body((("call", routine),)), ("routine", 1))
        for cells in (1, 2, 3, 4):
            for cell in range(6):
                expected = None if cell < cells else ("routine", 0)
                self.assertEqual(part_of(cells, ((("set", cell, (0,) * (cells + 1)),),)), expected)
        for many in (1, 2, 3, 4, 5):
            for routine in range(7):
                expected = None if routine < many else ("routine", 0)
                self.assertEqual(part_of(1, ((("call", routine),),) * many), expected)

    def test_bodies_within(self):
        wrong = [[], [SAY], SAY, "", 0, None, (0,), ("say",), (SAY, None), (list(SAY),), {}] + odd_things()
        for body in wrong:
            if body == ((),) or body == ():
                continue
            for statement in (("if", TEST, body, ()), ("if", TEST, (SAY,), body), ("while", TEST, body)):
                self.assertEqual(of_body((statement,)), ("routine", 1))
                self.assertEqual(of_body((("while", TEST, (SAY, statement)),)), ("routine", 1))

    def test_too_short_and_too_long(self):
        for statement in (
            ("set", 0, (0, 0, 0)), SAY, ("call", 0), ("if", TEST, (), ()), ("while", TEST, ()),
        ):
            self.assertIsNone(of_body((statement,)))
            for many in range(len(statement)):
                self.assertEqual(of_body((statement[:many],)), ("routine", 1))
            for more in ((), 0, None, (0, 0, 0), "x"):
                self.assertEqual(of_body((statement + (more,),)), ("routine", 1))

    def test_things_nested_deep(self):
        for kind in (tuple, list, dict):
            for depth in (1, 8, 9, 36, 40):
                thing = nested(depth, 0, kind)
                self.assertEqual(part_of(thing, ((),)), ("cells",))
                self.assertEqual(of_body((nested(min(depth, 38), SAY, kind),)), ("routine", 1))
                self.assertEqual(part_of(1, (nested(min(depth, 39), 0, kind),)), ("routine", 0))


class OrderTest(unittest.TestCase):
    def test_the_first_by_the_words_is_told(self):
        self.assertEqual(part_of(0, ()), ("cells",))
        self.assertEqual(part_of(5, (1,)), ("cells",))
        self.assertEqual(part_of(None, None), ("cells",))
        self.assertEqual(part_of(1, (1,) * 6), ("routines",))
        self.assertEqual(part_of(1, [1]), ("routines",))

    def test_the_first_routine_is_told(self):
        right, wrong = (("say", (0, 0)),), (("say", (0,)),)
        for at in range(5):
            routines = (right,) * at + (wrong,) * (5 - at)
            self.assertEqual(part_of(1, routines), ("routine", at))
        self.assertEqual(part_of(1, (right, (("say", (0, 0)),) * 39, wrong)), ("routine", 1))
        self.assertEqual(part_of(1, (right, nested_body(9), (("say", (0, 0)),) * 39)), ("routine", 1))
