"""bigcorners.runners.Runner: runs that are led step by step, back too [7.1]."""

import random
import unittest

from bigcorners.books import Book, deed, flow
from bigcorners.errors import NoBreak, NoContents, NoNumber, NoPlace, NoRoutine, NothingDone, NotRunning
from bigcorners.runners import Runner, ran
from tests.test_runs import random_begins
from tests.things import nested, odd_things
from tests.writing import nested_body, random_books, the_book

LESS = ("less", (0, 0), (1, 0))
ALWAYS = ("same", (0, 0), (0, 0))
UP = ("set", 0, (1, 1))
DOWN = ("set", 0, (1, -1))
SAY = ("say", (1, 0))


class Walk:
    """A run along the charts of the routines: each step makes a new state, and the old ones are kept."""

    def __init__(self, book, begins):
        self.book = book
        self.charts = [flow(book, routine) for routine in range(len(book.routines))]
        self.states = [(((0, 0),), begins, (), ())]
        self.breaks = []

    def deed(self):
        """What is done where it stands."""
        where = self.states[-1][0]
        return deed(self.book, *where[-1]) if where else None

    def word(self):
        """Whether it runs."""
        where = self.states[-1][0]
        if not where:
            return "over"
        return "fault" if len(where) == 20 and self.deed()[0] == "call" else "runs"

    def along(self, where, trail, which):
        """Where it stands, and the trail, behind an arrow."""
        routine, place = where[-1]
        arrows = self.charts[routine].arrows
        arrow = [number for number, pair in enumerate(arrows) if pair[0] == place][which]
        return where[:-1] + ((routine, arrows[arrow][1]),), trail + ((routine, arrow),)

    def step(self):
        """One step."""
        where, contents, said, trail = self.states[-1]
        done = self.deed()

        def total(numbers):
            return sum(many * held for many, held in zip(numbers, contents)) + numbers[-1]

        if done == "end":
            where = where[:-1]
            if where:
                where, trail = self.along(where, trail, 0)
        elif done[0] == "call":
            where += ((done[1], 0),)
        elif done[0] in ("less", "same"):
            first, second = total(done[1]), total(done[2])
            holds = first < second if done[0] == "less" else first == second
            where, trail = self.along(where, trail, 0 if holds else 1)
        else:
            if done[0] == "set":
                contents = contents[:done[1]] + (total(done[2]),) + contents[done[1] + 1:]
            if done[0] == "say":
                said += (total(done[1]),)
            where, trail = self.along(where, trail, 0)
        self.states.append((where, contents, said, trail))

    def go(self, most):
        """Steps, and how many."""
        done = 0
        while done < most and self.word() == "runs":
            self.step()
            done += 1
            where = self.states[-1][0]
            if where and where[-1] in self.breaks:
                break
        return done

    def copy(self):
        """Another one."""
        other = Walk(self.book, self.states[0][1])
        other.states, other.breaks = list(self.states), list(self.breaks)
        return other


def told(runner):
    """All that a runner tells."""
    return (
        runner.where(), runner.contents(), runner.said(), runner.trail(), runner.word(), runner.steps(), runner.breaks()
    )


def wanted(walk):
    """All that it should tell."""
    return walk.states[-1] + (walk.word(), len(walk.states) - 1, tuple(sorted(walk.breaks)))


class LedTest(unittest.TestCase):
    def same(self, runner, walk):
        self.assertEqual(told(runner), wanted(walk))
        self.assertEqual(told(runner), told(runner))

    def refused(self, runner, error, method, *arguments):
        before = told(runner)
        with self.assertRaises(error):
            getattr(runner, method)(*arguments)
        self.assertEqual(told(runner), before)

    def lead(self, rng, runner, walk):
        """One drawn deed."""
        kind = rng.choice(("step", "step", "back", "go", "set", "clear", "odd"))
        routine = rng.randrange(-1, len(walk.charts) + 1)
        place = rng.randrange(-1, 12)
        right = 0 <= routine < len(walk.charts)
        if kind == "step":
            if walk.word() == "runs":
                walk.step()
                self.assertIsNone(runner.step())
            else:
                self.refused(runner, NotRunning, "step")
        elif kind == "back":
            if len(walk.states) > 1:
                walk.states.pop()
                self.assertIsNone(runner.back())
            else:
                self.refused(runner, NothingDone, "back")
        elif kind == "go":
            most = rng.choice((0, 1, 2, 5, 40))
            self.assertEqual(runner.go(most), walk.go(most))
        elif kind == "set":
            if not right:
                self.refused(runner, NoRoutine, "set_break", routine, place)
            elif not 0 <= place < walk.charts[routine].places:
                self.refused(runner, NoPlace, "set_break", routine, place)
            else:
                self.assertIsNone(runner.set_break(routine, place))
                walk.breaks = sorted(set(walk.breaks) | {(routine, place)})
        elif kind == "clear":
            if walk.breaks and rng.random() < 0.5:
                routine, place = rng.choice(walk.breaks)
            if (routine, place) in walk.breaks:
                self.assertIsNone(runner.clear_break(routine, place))
                walk.breaks.remove((routine, place))
            else:
                self.refused(runner, NoBreak, "clear_break", routine, place)
        else:
            self.refused(runner, NoNumber, "go", rng.choice((-1, 5001, True, None, "1", ())))
        self.same(runner, walk)

    def test_drawn_deeds(self):
        rng = random.Random(61)
        words = []
        for book in random_books(61, 200):
            begins = random_begins(rng, book)
            pairs = [(Runner(book, begins), Walk(book, begins))]
            for _ in range(60):
                runner, walk = rng.choice(pairs)
                if rng.random() < 0.05:
                    pairs.append((runner.copy(), walk.copy()))
                self.lead(rng, runner, walk)
            for runner, walk in pairs:
                self.same(runner, walk)
                words.append(walk.word())
        self.assertGreater(min(words.count(word) for word in ("over", "fault", "runs")), 20)

    def test_each_step_and_all_the_way_back(self):
        rng = random.Random(62)
        for book in random_books(62, 150):
            begins = random_begins(rng, book)
            runner, walk = Runner(book, begins), Walk(book, begins)
            self.same(runner, walk)
            while walk.word() == "runs" and len(walk.states) < 150:
                runner.step()
                walk.step()
                self.same(runner, walk)
            many = len(walk.states) - 1
            expected = ran(book, begins, many)
            self.assertEqual((runner.said(), runner.contents()), (expected[0], expected[2]))
            while len(walk.states) > 1:
                runner.back()
                walk.states.pop()
                self.same(runner, walk)
            self.refused(runner, NothingDone, "back")
            self.assertEqual(runner.go(many), many)
            self.assertEqual((runner.said(), runner.contents()), (expected[0], expected[2]))

    def test_where_and_trail_of_calls(self):
        book = Book(1, ((("call", 1), SAY), (UP,)))
        runner = Runner(book, (4,))
        wheres, trails = [runner.where()], [runner.trail()]
        while runner.word() == "runs":
            runner.step()
            wheres.append(runner.where())
            trails.append(runner.trail())
        self.assertEqual(wheres, [
            ((0, 0),), ((0, 1),), ((0, 1), (1, 0)), ((0, 1), (1, 1)), ((0, 1), (1, 2)), ((0, 2),), ((0, 3),), (),
        ])
        self.assertEqual(trails[-1], ((0, 0), (1, 0), (1, 1), (0, 1), (0, 2)))
        self.assertEqual([len(trail) for trail in trails], [0, 1, 1, 2, 3, 4, 5, 5])
        self.assertEqual((runner.word(), runner.where(), runner.said(), runner.steps()), ("over", (), (5,), 7))
        self.refused(runner, NotRunning, "step")
        self.assertEqual(runner.go(5), 0)
        for at in range(6, -1, -1):
            runner.back()
            self.assertEqual((runner.where(), runner.trail()), (wheres[at], trails[at]))
        self.assertEqual((runner.word(), runner.said(), runner.contents()), ("runs", (), (4,)))
        self.refused(runner, NothingDone, "back")

    def test_a_fault(self):
        runner = Runner(Book(1, ((UP, ("call", 0)),)), (0,))
        self.assertEqual(runner.go(5000), 59)
        self.assertEqual((runner.word(), len(runner.where()), runner.contents()), ("fault", 20, (20,)))
        self.refused(runner, NotRunning, "step")
        self.assertEqual(runner.go(5000), 0)
        runner.back()
        self.assertEqual((runner.word(), runner.contents()), ("runs", (19,)))
        runner.step()
        self.assertEqual((runner.word(), runner.steps()), ("fault", 59))

    def test_twenty_open_routines_elsewhere_than_at_a_call(self):
        runner = Runner(Book(1, ((DOWN, ("if", LESS, (("call", 0),), ()), SAY),)), (20,))
        runner.set_break(0, 0)
        for many in range(2, 21):
            runner.go(5000)
            self.assertEqual(len(runner.where()), many)
        self.assertEqual(runner.word(), "runs")
        runner.go(5000)
        self.assertEqual((runner.word(), runner.said()), ("over", (0,) * 20))


class BreakTest(unittest.TestCase):
    def test_it_stops_behind_a_step(self):
        runner = Runner(the_book(), (3,))
        runner.set_break(0, 2)
        self.assertEqual(runner.go(100), 2)
        self.assertEqual(runner.where(), ((0, 2),))
        # It stands at the break: that does not stop it at once.
        self.assertEqual(runner.go(100), 3)
        self.assertEqual((runner.where(), runner.said()), (((0, 2),), (3,)))
        self.assertEqual(runner.go(0), 0)
        self.assertEqual(runner.go(2), 2)
        self.assertEqual(runner.go(100), 1)
        self.assertEqual(runner.go(100), 4)
        self.assertEqual((runner.word(), runner.said(), runner.steps()), ("over", (3, 2, 1), 12))

    def test_at_the_begin_and_at_the_end(self):
        runner = Runner(the_book(), (0,))
        runner.set_break(0, 0)
        runner.set_break(0, 4)
        self.assertEqual(runner.go(100), 2)
        self.assertEqual(runner.where(), ((0, 4),))
        self.assertEqual(runner.go(100), 1)
        self.assertEqual(runner.word(), "over")

    def test_only_where_it_stands_itself(self):
        book = Book(1, ((("call", 1), SAY), (UP, UP)))
        runner = Runner(book, (0,))
        runner.set_break(0, 1)
        self.assertEqual(runner.go(100), 1)
        # The call lies open at the place with the break while routine 1 runs.
        self.assertEqual(runner.go(100), 7)
        self.assertEqual(runner.word(), "over")

    def test_steps_do_not_stop(self):
        runner = Runner(the_book(), (1,))
        for place in range(5):
            runner.set_break(0, place)
        for many in range(1, 7):
            runner.step()
            self.assertEqual(runner.steps(), many)
        self.assertEqual(runner.breaks(), ((0, 0), (0, 1), (0, 2), (0, 3), (0, 4)))

    def test_set_twice_and_clear(self):
        runner = Runner(the_book(), (1,))
        runner.set_break(0, 3)
        runner.set_break(0, 3)
        self.assertEqual(runner.breaks(), ((0, 3),))
        runner.clear_break(0, 3)
        self.assertEqual(runner.breaks(), ())
        with self.assertRaises(NoBreak):
            runner.clear_break(0, 3)

    def test_back_takes_no_break_back(self):
        runner = Runner(the_book(), (1,))
        runner.step()
        runner.set_break(0, 2)
        runner.back()
        self.assertEqual(runner.breaks(), ((0, 2),))
        runner.step()
        runner.clear_break(0, 2)
        runner.back()
        self.assertEqual(runner.breaks(), ())

    def test_ascending(self):
        book = Book(1, ((SAY,) * 12, (SAY,) * 3, ()))
        runner = Runner(book, (1,))
        marks = [(2, 1), (0, 10), (1, 0), (0, 9), (0, 2), (2, 0)]
        for mark in marks:
            runner.set_break(*mark)
        self.assertEqual(runner.breaks(), tuple(sorted(marks)))

    def test_wrong_arguments(self):
        book = Book(1, ((SAY,), ()))
        runner = Runner(book, (1,))
        runner.set_break(0, 1)
        runner.set_break(1, 0)
        runner.set_break(1, 1)
        before = told(runner)
        things = [-1, 3, 10 ** 19, -10 ** 19, (), (0,), nested(40), nested(40, 0, list), nested(40, 0, dict)]
        things += odd_things()
        for thing in things:
            for other in [0, 1] + things[:9]:
                with self.assertRaises(NoRoutine):
                    runner.set_break(thing, other)
                with self.assertRaises(NoBreak):
                    runner.clear_break(thing, other)
                with self.assertRaises(NoBreak):
                    runner.clear_break(other, thing)
            for routine in (0, 1):
                with self.assertRaises(NoPlace):
                    runner.set_break(routine, thing)
        with self.assertRaises(NoRoutine):
            runner.set_break(2, 0)
        with self.assertRaises(NoPlace):
            runner.set_break(1, 2)
        with self.assertRaises(NoBreak):
            runner.clear_break(0, 0)
        self.assertEqual(told(runner), before)


class RunnerTest(unittest.TestCase):
    def test_go_wrong(self):
        runner = Runner(the_book(), (3,))
        runner.go(4)
        before = told(runner)
        for most in [-1, 5001, 10 ** 19, -10 ** 19, (), (1,), "1", nested(40)] + odd_things():
            with self.assertRaises(NoNumber):
                runner.go(most)
        self.assertEqual(told(runner), before)
        runner.go(5000)
        with self.assertRaises(NoNumber):
            runner.go(-1)
        self.assertEqual(runner.go(0), 0)

    def test_begins_wrong(self):
        for cells in (1, 2, 3, 4):
            book = Book(cells, ((),))
            good = (3,) * cells
            wrong = [(), good[1:], good + (0,), list(good), 3, (True,) + good[1:], good[1:] + (None,)] + odd_things()
            for begins in wrong + [good[1:] + (thing,) for thing in odd_things()] + [nested(40)]:
                with self.assertRaises(NoContents):
                    Runner(book, begins)
            self.assertEqual(Runner(book, good).contents(), good)

    def test_at_first(self):
        self.assertEqual(told(Runner(the_book(), (3,))), (((0, 0),), (3,), (), (), "runs", 0, ()))

    def test_copies_go_on_apart(self):
        runner = Runner(the_book(), (3,))
        runner.go(5)
        runner.set_break(0, 2)
        other = runner.copy()
        self.assertIs(type(other), Runner)
        self.assertEqual(told(other), told(runner))
        before = told(runner)
        other.go(3)
        other.clear_break(0, 2)
        other.set_break(0, 1)
        self.assertEqual(told(runner), before)
        kept = told(other)
        for _ in range(5):
            runner.back()
        runner.set_break(0, 4)
        self.assertEqual(told(other), kept)
        for _ in range(other.steps()):
            other.back()
        self.assertEqual(told(other), (((0, 0),), (3,), (), (), "runs", 0, ((0, 1),)))
        with self.assertRaises(NothingDone):
            other.back()

    def test_a_copy_of_a_run_that_is_over_goes_back(self):
        runner = Runner(the_book(), (1,))
        runner.go(100)
        other = runner.copy()
        other.back()
        self.assertEqual((runner.word(), other.word(), other.where()), ("over", "runs", ((0, 4),)))

    def test_long_runs(self):
        for routine in (nested_body(8), (("while", ALWAYS, (UP, SAY) * 18),)):
            runner = Runner(Book(1, (routine,)), (1,))
            for _ in range(3):
                self.assertEqual(runner.go(5000), 5000)
            self.assertEqual(runner.steps(), 15000)
            self.assertEqual(len(runner.trail()), 15000)
            for _ in range(15000):
                runner.back()
            self.assertEqual(told(runner), told(Runner(Book(1, (routine,)), (1,))))
        body = (UP,)
        for _ in range(7):
            body = (("while", ALWAYS, body),)
        runner = Runner(Book(1, (body,)), (0,))
        # The begin and six tests, then by turns the seventh and what stands in its body.
        self.assertEqual(runner.go(5000), 5000)
        self.assertEqual(runner.contents(), (2496,))

    def test_equal_to_nothing_else(self):
        runner = Runner(the_book(), (1,))
        for other in odd_things() + [runner.where(), the_book()]:
            self.assertIs(runner == other, False)
            self.assertIs(other == runner, False)

    def test_nothing_passed_is_changed(self):
        book, begins = the_book(), (3,)
        before = repr(book.routines)
        runner = Runner(book, begins)
        runner.go(100)
        runner.set_break(0, 1)
        self.assertEqual((repr(book.routines), begins), (before, (3,)))
        self.assertEqual(ran(book, begins, 4), ran(book, begins, 4))
