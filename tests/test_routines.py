"""bigcorners.books: the charts of routines, and what is done at their places [6.2]."""

import unittest

from bigcorners.books import Book, deed, flow
from bigcorners.charts import Chart, rim_of, tangled, tips
from bigcorners.errors import NoPlace, NoRoutine
from bigcorners.judging import is_picture
from bigcorners.pictures import picture
from bigcorners.prices import price
from tests.things import nested, odd_things
from tests.writing import Drawn, nested_body, random_books, the_book, whiles_in

TEST = ("less", (0, 0), (1, 0))
SAY = ("say", (1, 0))
SET = ("set", 0, (1, -1))
CALL = ("call", 0)
BOOKS = random_books(41, 250)


def in_bodies(inner):
    """Bodies in which statements are the first, the last and the only ones, beside and within others."""
    found = []
    for body in ((inner,), (inner, SAY), (SAY, inner), (SAY, inner, SET), (inner, inner)):
        found += [body, (("while", TEST, body),), (("if", TEST, body, ()),), (("if", TEST, (), body),)]
        found += [(("if", TEST, body, body),), (CALL, ("while", TEST, body), SAY), (SAY, ("if", TEST, body, (SAY,)))]
    return found


def known_bodies():
    """Bodies with all that 6.2 names."""
    bodies = [(), (SAY,), (SET,), (CALL,), (SAY, SET, CALL)]
    for inner in (
        ("if", TEST, (), ()), ("if", TEST, (SAY,), ()), ("if", TEST, (), (SAY,)), ("if", TEST, (SAY,), (SET, CALL)),
        ("while", TEST, ()), ("while", TEST, (SAY,)), ("while", TEST, (("while", TEST, ()),)),
        ("while", TEST, (SAY, ("while", TEST, (SAY,)))),
        ("if", TEST, (("while", TEST, ()),), (("while", TEST, (SAY,)),)),
        ("while", TEST, (("if", TEST, (), ()),)),
    ):
        bodies += in_bodies(inner)
    bodies += [nested_body(deep, word) for deep in range(1, 9) for word in ("while", "if")]
    bodies += [(SAY,) * 38, (("while", TEST, ()),) * 38, (("if", TEST, (), ()),) * 19]
    return bodies


ALL = [(Book(1, (body,)), 0) for body in known_bodies()]
ALL += [(book, routine) for book in BOOKS for routine in range(len(book.routines))]


class FlowTest(unittest.TestCase):
    def test_against_a_second_drawing(self):
        for book, routine in ALL:
            drawn = Drawn(book.routines[routine])
            chart = flow(book, routine)
            self.assertIs(type(chart), Chart)
            self.assertEqual(chart.places, len(drawn.deeds))
            self.assertEqual(chart.arrows, tuple((arrow[0], arrow[2]) for arrow in drawn.arrows))
            self.assertEqual(chart.prices, (1,) * len(drawn.arrows))
            rounds = tuple(tuple(drawn.round(place)) for place in range(chart.places))
            self.assertEqual(chart, Chart(chart.places, chart.arrows, rounds, 0, chart.prices))
            self.assertEqual((chart.outer, rim_of(chart, 0)), (0, 0))

    def test_there_are_books_of_all_sizes(self):
        sizes = [flow(book, routine).places for book, routine in ALL]
        self.assertEqual((min(sizes), max(sizes)), (2, 40))
        self.assertGreater(max(len(flow(book, routine).arrows) for book, routine in ALL), 70)

    def test_shape(self):
        for book, routine in ALL:
            chart = flow(book, routine)
            self.assertIsNone(tangled(chart))
            self.assertEqual(tips(chart), (0, chart.places - 1))
            self.assertEqual(chart.rounds[0], (0,))
            self.assertEqual(len(chart.rounds[-1]), 1)

    def test_the_fifth_fact(self):
        for book, routine in ALL:
            self.assertEqual(price(flow(book, routine)), whiles_in(book.routines[routine]))

    def test_pictures(self):
        for book, routine in ALL[::5]:
            chart = flow(book, routine)
            made = picture(chart)
            self.assertIs(is_picture(chart, made), True)
            self.assertEqual(sum(len(turns) // 2 for _, turns in made[1]), whiles_in(book.routines[routine]))

    def test_by_hand(self):
        self.assertEqual(flow(Book(1, ((),)), 0), Chart(2, ((0, 1),), ((0,), (1,)), 0, (1,)))
        chart = flow(the_book(), 0)
        self.assertEqual(chart.arrows, ((0, 1), (1, 2), (1, 4), (2, 3), (3, 1)))
        self.assertEqual(chart.rounds, ((0,), (1, 9, 2, 4), (3, 6), (7, 8), (5,)))
        both = flow(Book(1, ((("if", TEST, (SAY,), ()), SET),)), 0)
        self.assertEqual(both.arrows, ((0, 1), (1, 2), (1, 3), (2, 3), (3, 4), (4, 5)))
        self.assertEqual(both.rounds, ((0,), (1, 2, 4), (3, 6), (5, 7, 8), (9, 10), (11,)))
        loop = flow(Book(1, ((("while", TEST, ()),),)), 0)
        self.assertEqual(loop.arrows, ((0, 1), (1, 1), (1, 2)))
        self.assertEqual(loop.rounds, ((0,), (1, 3, 2, 4), (5,)))
        self.assertEqual((price(loop), price(both)), (1, 0))

    def test_calls_are_places_alone(self):
        book = Book(1, ((CALL, ("call", 1)), (SAY, ("call", 0))))
        for routine in (0, 1):
            self.assertEqual(flow(book, routine).arrows, ((0, 1), (1, 2), (2, 3)))

    def test_twice_the_same_and_nothing_changed(self):
        for book, routine in ALL[::7]:
            before = repr(book.routines)
            self.assertEqual(flow(book, routine), flow(book, routine))
            self.assertEqual(repr(book.routines), before)

    def test_no_routine(self):
        for book in BOOKS[:20]:
            for routine in [len(book.routines), 5, -1, 10 ** 19, -10 ** 19, (0,), nested(40)] + odd_things():
                with self.assertRaises(NoRoutine):
                    flow(book, routine)


class DeedTest(unittest.TestCase):
    def test_each_place_against_a_second_drawing(self):
        for book, routine in ALL:
            deeds = Drawn(book.routines[routine]).deeds
            self.assertEqual([deed(book, routine, place) for place in range(len(deeds))], deeds)

    def test_by_hand(self):
        book = Book(1, ((SAY, ("if", TEST, (CALL,), (("while", TEST, (SET,)),)), SAY), ()))
        deeds = ["begin", SAY, TEST, CALL, TEST, SET, "join", SAY, "end"]
        self.assertEqual([deed(book, 0, place) for place in range(9)], deeds)
        self.assertEqual([deed(book, 1, place) for place in range(2)], ["begin", "end"])

    def test_twice_the_same(self):
        for book, routine in ALL[::9]:
            for place in range(flow(book, routine).places):
                self.assertEqual(deed(book, routine, place), deed(book, routine, place))

    def test_no_routine_then_no_place(self):
        things = [-1, 40, 10 ** 19, -10 ** 19, (), (0,), nested(40), nested(40, 0, list)] + odd_things()
        for book in BOOKS[:8] + [the_book()]:
            places = [flow(book, routine).places for routine in range(len(book.routines))]
            for thing in things + [len(places)]:
                for place in [0, places[0]] + things[:6]:
                    with self.assertRaises(NoRoutine):
                        deed(book, thing, place)
                for routine, many in enumerate(places):
                    with self.assertRaises(NoPlace):
                        deed(book, routine, many if thing == len(places) else thing)
                    self.assertEqual(deed(book, routine, many - 1), "end")
