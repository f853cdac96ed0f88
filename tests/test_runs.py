"""bigcorners.runners.ran: runs that go to their end, or for so many steps [6.3]."""

import random
import unittest

from bigcorners.books import Book
from bigcorners.errors import NoContents, NoNumber
from bigcorners.runners import ran
from tests.things import nested, odd_things
from tests.writing import nested_body, random_books, slow_states, the_book

LESS = ("less", (0, 0), (1, 0))
ALWAYS = ("same", (0, 0), (0, 0))
UP = ("set", 0, (1, 1))
DOWN = ("set", 0, (1, -1))
SAY = ("say", (1, 0))


def random_begins(rng, book):
    """What the cells may hold at first."""
    return tuple(rng.choice((0, 1, 2, 3, -1, -4, rng.randint(-99, 99))) for _ in range(book.cells))


class RanTest(unittest.TestCase):
    def test_example(self):
        self.assertEqual(ran(the_book(), (2,), 99), ((2, 1), "over", (0,)))

    def test_against_a_slow_run(self):
        rng = random.Random(51)
        words = []
        for book in random_books(51, 400):
            begins = random_begins(rng, book)
            states = slow_states(book, begins, 150)
            for most, state in enumerate(states):
                self.assertEqual(ran(book, begins, most), state)
            words.append(states[-1][1])
            if words[-1] != "on":
                for most in (len(states), len(states) + 1, 5000):
                    self.assertEqual(ran(book, begins, most), states[-1])
        self.assertGreater(min(words.count(word) for word in ("over", "fault", "on")), 20)

    def test_no_steps(self):
        self.assertEqual(ran(the_book(), (7,), 0), ((), "on", (7,)))
        self.assertEqual(ran(Book(1, ((),)), (7,), 0), ((), "on", (7,)))
        self.assertEqual(ran(Book(1, ((("call", 0),),)), (7,), 0), ((), "on", (7,)))

    def test_just_as_many_as_it_takes(self):
        empty = Book(2, ((),))
        self.assertEqual([ran(empty, (1, 2), most)[1] for most in (0, 1, 2, 3)], ["on", "on", "over", "over"])
        for begin in range(12):
            # The begin, and the test once more than there are rounds of three steps, and the end.
            many = 3 + 3 * begin
            self.assertEqual(ran(the_book(), (begin,), many - 1)[1], "on")
            self.assertEqual(ran(the_book(), (begin,), many)[1], "over")
            self.assertEqual(ran(the_book(), (begin,), many + 1), (tuple(range(begin, 0, -1)), "over", (0,)))

    def test_each_statement_step_by_step(self):
        book = Book(1, ((UP, ("if", LESS, (SAY,), ()), ("call", 1), SAY), (DOWN, DOWN)))
        told = [(state[0], state[2]) for state in [ran(book, (0,), most) for most in range(14)]]
        self.assertEqual(told, [
            ((), (0,)), ((), (0,)), ((), (1,)), ((), (1,)), ((1,), (1,)), ((1,), (1,)), ((1,), (1,)), ((1,), (1,)),
            ((1,), (0,)), ((1,), (-1,)), ((1,), (-1,)), ((1, -1), (-1,)), ((1, -1), (-1,)), ((1, -1), (-1,)),
        ])
        self.assertEqual([ran(book, (0,), most)[1] for most in (11, 12, 13)], ["on", "over", "over"])

    def test_sums_and_tests(self):
        book = Book(3, ((("set", 2, (2, -1000, 3, 4)), ("say", (0, 0, 1, 0)), ("say", (0, 0, 0, -7))),))
        self.assertEqual(ran(book, (5, 6, 7), 99), ((10 - 6000 + 21 + 4, -7), "over", (5, 6, -5965)))
        for word, pairs in (("less", ((1, 2), (-2, -1))), ("same", ((3, 3), (-1, -1)))):
            book = Book(2, ((("if", (word, (1, 0, 0), (0, 1, 0)), (("say", (0, 0, 1)),), (("say", (0, 0, 2)),)),),))
            for first in range(-3, 4):
                for second in range(-3, 4):
                    holds = first < second if word == "less" else first == second
                    self.assertEqual(ran(book, (first, second), 99)[0], (1,) if holds else (2,))
            for pair in pairs:
                self.assertEqual(ran(book, pair, 99)[0], (1,))

    def test_a_while_asks_ahead_of_each_round(self):
        book = Book(1, ((("while", LESS, (DOWN, SAY)), SAY),))
        self.assertEqual(ran(book, (3,), 99), ((2, 1, 0, 0), "over", (0,)))
        self.assertEqual(ran(book, (0,), 99), ((0,), "over", (0,)))
        self.assertEqual(ran(book, (-5,), 99), ((-5,), "over", (-5,)))

    def test_whiles_that_never_end(self):
        for body in ((("while", ALWAYS, ()),), (("while", ALWAYS, (SAY,)),), nested_body(8, "while", (UP,))):
            book = Book(1, (body,))
            for most in (0, 1, 7, 4999, 5000):
                said, word, contents = ran(book, (1,), most)
                self.assertEqual(word, "on")
                self.assertLessEqual(len(said), most)
        self.assertEqual(len(ran(Book(1, ((("while", ALWAYS, (SAY,)),),)), (1,), 5000)[0]), 2499)

    def test_cells_are_shared_by_all_routines(self):
        book = Book(1, ((("call", 1), SAY, ("call", 2), SAY), (UP,), (("call", 1), ("call", 1))))
        self.assertEqual(ran(book, (10,), 99), ((11, 13), "over", (13,)))


class CallTest(unittest.TestCase):
    def test_twenty_open_routines_and_a_call(self):
        book = Book(1, ((UP, ("call", 0), SAY),))
        # Three steps for each of 19 routines; the 20th stands at its call behind two more.
        for most in (56, 57, 58):
            self.assertEqual(ran(book, (0,), most), ((), "on", (19,)))
        self.assertEqual(ran(book, (0,), 59), ((), "fault", (20,)))
        self.assertEqual(ran(book, (0,), 60), ((), "fault", (20,)))
        self.assertEqual(ran(book, (0,), 5000), ((), "fault", (20,)))

    def test_just_twenty_open_routines(self):
        for deep in range(1, 24):
            # It calls itself until the cell is used up: so many routines are open then.
            book = Book(1, ((DOWN, ("if", LESS, (("call", 0),), ()), SAY),))
            said, word, contents = ran(book, (deep,), 5000)
            if deep <= 20:
                self.assertEqual((said, word, contents), ((0,) * deep, "over", (0,)))
            else:
                self.assertEqual((said, word, contents), ((), "fault", (deep - 20,)))

    def test_one_another(self):
        first = (DOWN, ("if", LESS, (("call", 1),), ()), SAY)
        second = (DOWN, SAY, ("if", LESS, (("call", 0),), ()))
        self.assertEqual(ran(Book(1, (first, second)), (5,), 999), ((3, 1, 0, 0, 0), "over", (0,)))
        self.assertEqual(ran(Book(1, (first, second)), (21,), 999)[1], "fault")

    def test_a_call_that_comes_back_may_be_done_again(self):
        book = Book(1, ((("while", LESS, (("call", 1), DOWN)),), (SAY,)))
        self.assertEqual(ran(book, (30,), 5000), (tuple(range(30, 0, -1)), "over", (0,)))

    def test_a_fault_from_many_kinds_of_calls(self):
        for target in range(3):
            book = Book(1, ((("call", 1),), (("call", 2),), (UP, ("call", target))))
            said, word, contents = ran(book, (0,), 5000)
            self.assertEqual(word, "fault")


class WrongTest(unittest.TestCase):
    def test_most(self):
        book = the_book()
        self.assertEqual(ran(book, (1,), 5000)[1], "over")
        for most in [5001, -1, 10 ** 19, -10 ** 19, (), (3,), "3", nested(40)] + odd_things():
            with self.assertRaises(NoNumber):
                ran(book, (1,), most)

    def test_begins(self):
        for cells in (1, 2, 3, 4):
            book = Book(cells, ((),))
            good = (3,) * cells
            wrong = [(), good[1:], good + (0,), list(good), 3, None, (True,) + good[1:], good[1:] + (False,)]
            wrong += [(None,) + good[1:], good[1:] + ("3",), good[1:] + ((3,),), (good,), dict(zip(good, good))]
            wrong += [range(cells)] + odd_things()
            wrong += [(thing,) + good[1:] for thing in odd_things()] + [nested(40), nested(40, 0, list)]
            for begins in wrong:
                for most in (0, 5, -1, 5001, None):
                    with self.assertRaises(NoContents):
                        ran(book, begins, most)
            self.assertEqual(ran(book, good, 9), ((), "over", good))
            with self.assertRaises(NoNumber):
                ran(book, good, None)

    def test_large_numbers(self):
        for number in (10 ** 19, -10 ** 19, 99999999999999999999, -99999999999999999999):
            book = Book(2, ((("say", (1, -1, 1)), ("set", 0, (1000, 1000, 1000)), ("say", (1, 0, 0))),))
            self.assertEqual(
                ran(book, (number, 3), 9), ((number - 2, 1000 * number + 4000), "over", (1000 * number + 4000, 3))
            )

    def test_what_was_returned_may_be_passed_on(self):
        book = Book(1, ((("while", ALWAYS, (("set", 0, (1000, 0)),)),),))
        contents = ran(book, (1,), 601)[2]
        self.assertEqual(contents, (1000 ** 300,))
        self.assertEqual(ran(book, contents, 3)[2], (1000 ** 301,))
        other = Book(1, ((("if", ("less", (1, 0), (1, 1)), (SAY,), ()),),))
        self.assertEqual(ran(other, contents, 9), ((1000 ** 300,), "over", contents))

    def test_twice_the_same_and_nothing_changed(self):
        rng = random.Random(52)
        for book in random_books(52, 60):
            begins, before = random_begins(rng, book), repr(book.routines)
            self.assertEqual(ran(book, begins, 100), ran(book, begins, 100))
            self.assertEqual(repr(book.routines), before)
