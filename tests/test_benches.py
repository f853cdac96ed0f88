"""bigcorners.benches: charts that change, and changes that are taken back [8.1]."""

import random
import unittest

from bigcorners.benches import Bench
from bigcorners.charts import Chart, rim_of, rims
from bigcorners.errors import Apart, ChartError, Full, NoArrow, NoEnd, NoPrice, NotOneRim, NothingDone
from bigcorners.prices import price as price_of
from tests.accounts import Account
from tests.growing import chain, great_charts, grown_charts, nested_loops, ring_of, side_by_side, star
from tests.things import a_path, a_ring, nested, odd_things, random_charts

WRONG_NUMBERS = [-1, -10 ** 19, 10 ** 19, (), (0,), nested(40), nested(40, 0, list), nested(40, 0, dict)]


def parts(chart):
    """All attributes of a chart."""
    return chart.places, chart.arrows, chart.rounds, chart.outer, chart.prices


def told(bench):
    """All that a bench tells, what can be taken back and done again too."""
    other = bench.copy()
    back, again = [], []
    while other.deeds():
        other.undo()
        back.append(parts(other.chart()))
    other = bench.copy()
    try:
        while True:
            other.redo()
            again.append(parts(other.chart()))
    except NothingDone:
        pass
    return parts(bench.chart()), bench.deeds(), back, again


def random_change(rng, chart):
    """A change by its name and arguments, right or wrong."""
    ends, arrows = 2 * len(chart.arrows), len(chart.arrows)
    price = rng.choice((None, 1, 1000, rng.randint(1, 9)))
    if rng.random() < 0.04:
        price = rng.choice((0, 1001, -1, True, False, "1", (), [1]))
    name = rng.choice(("put", "put", "put", "strike", "strike", "turn", "split", "ask", "outside"))
    arrow = rng.randrange(arrows) if rng.random() < 0.95 else rng.choice((-1, arrows, arrows + 1, True, None, "0"))
    angle, other = rng.randrange(ends), rng.randrange(ends)
    if rng.random() < 0.7:
        other = rng.choice([rim for rim in rims(chart) if angle in rim][0])
    if rng.random() < 0.1:
        other = angle
    if rng.random() < 0.04:
        angle = rng.choice((-1, ends, None, False, "0"))
    if rng.random() < 0.04:
        other = rng.choice((-1, ends, None, True, "0"))
    return {
        "put": ("put", angle, other, price), "strike": ("strike", arrow), "turn": ("turn", arrow),
        "split": ("split", arrow), "ask": ("ask", arrow, price), "outside": ("outside", angle),
    }[name]


def is_number(thing, below):
    """Whether a thing is an integer from 0 to below a bound."""
    return type(thing) is int and 0 <= thing < below


def expected_error(account, change):
    """The error that the words of 8.1 name first for a change, or None."""
    name, *arguments = change
    places, arrows, _, _, _ = account.parts()
    price = arguments[-1]
    price_wrong = not (price is None or (type(price) is int and 1 <= price <= 1000))
    if name == "put":
        angle, other, _ = arguments
        if not is_number(angle, 2 * len(arrows)) or not is_number(other, 2 * len(arrows)):
            return NoEnd
        if other not in account.rim_of(angle):
            return NotOneRim
        return NoPrice if price_wrong else Full if len(arrows) >= 80 else None
    if name == "outside":
        return None if is_number(arguments[0], 2 * len(arrows)) else NoEnd
    if not is_number(arguments[0], len(arrows)):
        return NoArrow
    if name == "strike":
        alone = len(arrows) == 1
        return Apart if alone or not account.hang_together(account.names[arguments[0]]) else None
    if name == "split":
        return Full if places >= 40 or len(arrows) >= 80 else None
    return NoPrice if name == "ask" and price_wrong else None


class Checked(unittest.TestCase):
    def refused(self, bench, error, method, *arguments):
        before = told(bench)
        with self.assertRaises(error) as caught:
            getattr(bench, method)(*arguments)
        self.assertIs(type(caught.exception), error)
        self.assertEqual(told(bench), before)

    def changed(self, bench, account, change):
        """One change, and whether it was done: the account tells what should come of it."""
        error = expected_error(account, change)
        if error is not None:
            self.refused(bench, error, *change)
            return False
        name, *arguments = change
        getattr(account, name)(*arguments)
        self.assertIsNone(getattr(bench, name)(*arguments))
        self.assertEqual(parts(bench.chart()), account.parts())
        self.assertEqual(bench.chart(), account.chart())
        return True


class ChangesTest(Checked):
    def test_long_rows_of_changes(self):
        rng = random.Random(71)
        seen = []
        for chart in random_charts(71, 60) + grown_charts(72, 30) + [a_path(), a_ring(), nested_loops((1, 2, 3))]:
            bench, account = Bench(chart), Account(chart)
            done = 0
            for _ in range(40):
                change = random_change(rng, bench.chart())
                right = self.changed(bench, account, change)
                seen.append((change[0], right))
                done += right
                self.assertEqual(bench.deeds(), done)
        for name in ("put", "strike", "turn", "split", "ask", "outside"):
            self.assertGreater(min(seen.count((name, True)), seen.count((name, False)) + 20), 20)

    def test_put_through_every_pair_of_angles(self):
        for chart in random_charts(73, 12, 5) + [a_path(), a_ring(), nested_loops((1, 1))]:
            for outer in range(2 * len(chart.arrows)):
                start = Chart(chart.places, chart.arrows, chart.rounds, outer, chart.prices)
                for angle in range(2 * len(chart.arrows)):
                    for other in range(2 * len(chart.arrows)):
                        self.changed(Bench(start), Account(start), ("put", angle, other, 7))

    def test_each_other_change_with_each_outer_rim(self):
        for chart in random_charts(74, 25, 9) + [a_path(), a_ring(), nested_loops((1, 1, 2)), ring_of((1, 2, 3))]:
            for rim in rims(chart):
                start = Chart(chart.places, chart.arrows, chart.rounds, rim[0], chart.prices)
                for arrow in range(len(chart.arrows)):
                    for name in ("strike", "turn", "split"):
                        self.changed(Bench(start), Account(start), (name, arrow))
                    self.changed(Bench(start), Account(start), ("ask", arrow, 5))
                for angle in range(2 * len(chart.arrows)):
                    bench = Bench(start)
                    bench.outside(angle)
                    self.assertEqual(rim_of(bench.chart(), bench.chart().outer), rim_of(start, angle))

    def test_great_charts(self):
        rng = random.Random(75)
        for chart in great_charts(75, 6):
            bench, account = Bench(chart), Account(chart)
            for _ in range(12):
                self.changed(bench, account, random_change(rng, bench.chart()))


class ByHandTest(Checked):
    def test_put_beside(self):
        bench = Bench(a_path())
        bench.put(0, 1, None)
        # Behind end 0 the new arrow goes out, behind end 1 it comes in: the angle 0 is told by the old number.
        self.assertEqual(parts(bench.chart()), (2, ((0, 1), (0, 1)), ((0, 2), (1, 3)), 0, (1, None)))
        self.assertEqual(rims(bench.chart()), [(0, 3), (1, 2)])

    def test_put_back(self):
        bench = Bench(a_path())
        bench.put(1, 0, 4)
        self.assertEqual(parts(bench.chart()), (2, ((0, 1), (1, 0)), ((0, 3), (1, 2)), 0, (1, 4)))

    def test_put_at_one_and_the_same_angle(self):
        bench = Bench(a_path())
        bench.put(1, 1, 4)
        self.assertEqual(parts(bench.chart()), (2, ((0, 1), (1, 1)), ((0,), (1, 2, 3)), 0, (1, 4)))
        self.assertEqual(rims(bench.chart()), [(0, 3, 1), (2,)])

    def test_put_at_two_angles_of_one_place(self):
        chart = side_by_side((1, 1))
        self.assertEqual((chart.rounds, rims(chart)), (((0, 2), (1, 3)), [(0, 3), (1, 2)]))
        bench = Bench(chain((1, 1)))
        bench.put(1, 2, 9)
        arrows, prices = ((0, 1), (1, 2), (1, 1)), (None, None, 9)
        self.assertEqual(parts(bench.chart()), (3, arrows, ((0,), (1, 4, 2, 5), (3,)), 0, prices))
        bench = Bench(chain((1, 1)))
        bench.put(2, 1, 9)
        self.assertEqual(parts(bench.chart()), (3, arrows, ((0,), (1, 5, 2, 4), (3,)), 0, prices))

    def test_put_is_refused_through_two_rims(self):
        bench = Bench(a_ring())
        for angle in range(4):
            for other in range(4):
                if angle % 2 == other % 2:
                    bench.copy().put(angle, other, 1)
                else:
                    self.refused(bench, NotOneRim, "put", angle, other, 1)

    def test_strike(self):
        bench = Bench(a_ring(1))
        bench.strike(0)
        self.assertEqual(parts(bench.chart()), (2, ((1, 0),), ((1,), (0,)), 0, (5,)))
        self.refused(bench, Apart, "strike", 0)
        loops = nested_loops((1, 2, 3))
        for arrow, prices in ((0, (2, 3)), (1, (1, 3)), (2, (1, 2))):
            bench = Bench(loops)
            bench.strike(arrow)
            self.assertEqual(parts(bench.chart()), parts(nested_loops(prices)))

    def test_strike_beside_the_outer_rim(self):
        # The outer rim of nested loops lies round all: without the outermost loop it lies round the next one.
        chart = nested_loops((1, 2))
        self.assertEqual(rims(chart), [(0, 3), (1,), (2,)])
        inner = Chart(1, chart.arrows, chart.rounds, 2, chart.prices)
        for start, arrow, outer in ((chart, 0, 1), (chart, 1, 1), (inner, 1, 0), (inner, 0, 0)):
            bench = Bench(start)
            bench.strike(arrow)
            self.assertEqual(bench.chart().outer, outer)

    def test_strike_leaves_places_apart(self):
        for chart in (a_path(), star(5, 3), chain((1, 0, 1, 1))):
            for arrow in range(len(chart.arrows)):
                self.refused(Bench(chart), Apart, "strike", arrow)
        tailed = Chart(2, ((0, 1), (1, 1)), ((0,), (1, 2, 3)), 0, (1, 1))
        self.refused(Bench(tailed), Apart, "strike", 0)
        bench = Bench(tailed)
        bench.strike(1)
        self.assertEqual(bench.chart(), a_path())

    def test_the_last_arrow(self):
        self.refused(Bench(nested_loops((3,))), Apart, "strike", 0)
        self.refused(Bench(a_path()), Apart, "strike", 0)

    def test_turn(self):
        bench = Bench(a_path())
        bench.turn(0)
        self.assertEqual(parts(bench.chart()), (2, ((1, 0),), ((1,), (0,)), 0, (1,)))
        bench = Bench(nested_loops((7,)))
        self.assertEqual((bench.chart().rounds, bench.chart().outer), (((0, 1),), 1))
        bench.turn(0)
        self.assertEqual(parts(bench.chart()), (1, ((0, 0),), ((0, 1),), 0, (7,)))
        bench = Bench(a_ring(1))
        bench.turn(0)
        self.assertEqual(parts(bench.chart()), (2, ((1, 0), (1, 0)), ((1, 3), (0, 2)), 0, (1, 5)))
        bench = Bench(a_ring(1))
        bench.turn(1)
        self.assertEqual(parts(bench.chart()), (2, ((0, 1), (0, 1)), ((0, 2), (1, 3)), 1, (1, 5)))

    def test_twice_turned_is_the_same(self):
        for chart in random_charts(76, 40):
            for arrow in range(len(chart.arrows)):
                bench = Bench(chart)
                bench.turn(arrow)
                bench.turn(arrow)
                self.assertEqual(bench.chart(), chart)
                self.assertEqual(bench.deeds(), 2)

    def test_split(self):
        bench = Bench(a_path(None))
        bench.split(0)
        self.assertEqual(parts(bench.chart()), (3, ((0, 2), (2, 1)), ((0,), (3,), (1, 2)), 0, (None, None)))
        bench = Bench(nested_loops((7,)))
        bench.split(0)
        self.assertEqual(parts(bench.chart()), (2, ((0, 1), (1, 0)), ((0, 3), (1, 2)), 1, (7, 7)))

    def test_ask_and_outside(self):
        bench = Bench(a_ring())
        bench.ask(1, None)
        bench.ask(0, 1000)
        self.assertEqual(bench.chart(), a_ring(0, (1000, None)))
        bench.outside(3)
        self.assertEqual(bench.chart(), a_ring(1, (1000, None)))
        bench.outside(1)
        bench.ask(0, 1000)
        # They count though nothing is another.
        self.assertEqual(bench.deeds(), 5)
        self.assertEqual(price_of(bench.chart()), 1000)


class UndoTest(Checked):
    def test_drawn_deeds(self):
        rng = random.Random(77)
        for chart in random_charts(77, 60, 8):
            bench = Bench(chart)
            charts, at = [parts(chart)], 0
            for _ in range(60):
                kind = rng.random()
                if kind < 0.3:
                    if at:
                        at -= 1
                        self.assertIsNone(bench.undo())
                    else:
                        self.refused(bench, NothingDone, "undo")
                elif kind < 0.5:
                    if at + 1 < len(charts):
                        at += 1
                        self.assertIsNone(bench.redo())
                    else:
                        self.refused(bench, NothingDone, "redo")
                else:
                    change = random_change(rng, bench.chart())
                    error = expected_error(Account(bench.chart()), change)
                    if error is None:
                        getattr(bench, change[0])(*change[1:])
                        charts[at + 1:] = [parts(bench.chart())]
                        at += 1
                    else:
                        self.refused(bench, error, *change)
                self.assertEqual(told(bench), (charts[at], at, charts[:at][::-1], charts[at + 1:]))

    def test_a_change_behind_an_undo(self):
        bench = Bench(a_ring())
        bench.ask(0, 7)
        bench.ask(1, 8)
        bench.undo()
        bench.undo()
        bench.redo()
        self.assertEqual(bench.chart().prices, (7, 5))
        bench.ask(1, 9)
        self.refused(bench, NothingDone, "redo")
        self.assertEqual(bench.deeds(), 2)
        bench.undo()
        bench.undo()
        self.refused(bench, NothingDone, "undo")
        self.assertEqual(bench.chart(), a_ring())

    def test_a_refused_change_leaves_what_can_be_done_again(self):
        bench = Bench(a_ring())
        bench.ask(0, 7)
        bench.undo()
        for change in (("ask", 2, 1), ("ask", 0, 0), ("put", 0, 1, 1), ("strike", 5), ("split", None), ("outside", 4)):
            self.refused(bench, expected_error(Account(a_ring()), change), *change)
        bench.redo()
        self.assertEqual(bench.chart().prices, (7, 5))

    def test_at_first(self):
        bench = Bench(a_ring())
        self.assertEqual((bench.chart(), bench.deeds()), (a_ring(), 0))
        self.refused(bench, NothingDone, "undo")
        self.refused(bench, NothingDone, "redo")


class CopyTest(Checked):
    def test_both_go_on_apart(self):
        rng = random.Random(78)
        for chart in random_charts(78, 30, 6):
            bench = Bench(chart)
            for _ in range(12):
                change = random_change(rng, bench.chart())
                if expected_error(Account(bench.chart()), change) is None:
                    getattr(bench, change[0])(*change[1:])
            for _ in range(min(bench.deeds(), 3)):
                bench.undo()
            other = bench.copy()
            self.assertIs(type(other), Bench)
            before = told(bench)
            self.assertEqual(told(other), before)
            other.ask(0, 9)
            other.undo()
            other.outside(0)
            self.assertEqual(told(bench), before)
            kept = told(other)
            for _ in range(bench.deeds()):
                bench.undo()
            bench.turn(0)
            self.assertEqual(told(other), kept)

    def test_the_chart_passed_stays(self):
        for chart in random_charts(79, 20):
            before = parts(chart)
            bench = Bench(chart)
            bench.turn(0)
            bench.ask(0, 3)
            self.assertEqual(parts(chart), before)
            self.assertEqual(bench.chart(), bench.chart())

    def test_equal_to_nothing_else(self):
        bench = Bench(a_path())
        for other in odd_things() + [a_path()]:
            self.assertIs(bench == other, False)
            self.assertIs(other == bench, False)


class TryingTest(Checked):
    def start(self):
        """A bench with something to take back and something to do again."""
        bench = Bench(a_ring())
        for price in (2, 3, 4):
            bench.ask(0, price)
        bench.undo()
        return bench

    def test_what_it_returns(self):
        bench = self.start()
        before = told(bench)
        for value in (None, 0, [1], "x", a_path()):
            self.assertIs(bench.trying(lambda given: value), value)
        self.assertIs(bench.trying(lambda given: given), bench)
        self.assertEqual(bench.trying(lambda given: given.chart().prices), (3, 5))
        self.assertEqual(told(bench), before)

    def test_changes_undos_and_copies_within(self):
        bench = self.start()
        before = told(bench)
        kept = []

        def action(given):
            given.undo()
            given.undo()
            given.split(0)
            given.turn(1)
            kept.append(given.copy())
            given.undo()
            given.outside(1)
            return given.deeds()

        self.assertEqual(bench.trying(action), 2)
        self.assertEqual(told(bench), before)
        self.assertEqual((kept[0].chart().places, kept[0].deeds()), (3, 2))
        bench.redo()
        self.assertEqual(bench.chart().prices, (4, 5))

    def test_redo_within(self):
        bench = self.start()
        before = told(bench)
        bench.trying(lambda given: given.redo())
        self.assertEqual(told(bench), before)

    def test_errors_go_on(self):
        bench = self.start()
        before = told(bench)

        class Own(Exception):
            pass

        def action(error):
            def act(given):
                given.strike(0)
                given.ask(0, 77)
                raise error
            return act

        for error in (Own("x"), ValueError("y"), NoArrow(), KeyboardInterrupt(), StopIteration(), SystemExit(3)):
            with self.assertRaises(type(error)) as caught:
                bench.trying(action(error))
            self.assertIs(caught.exception, error)
            self.assertEqual(told(bench), before)
        with self.assertRaises(Apart):
            bench.trying(lambda given: (given.strike(1), given.strike(0)))
        self.assertEqual(told(bench), before)

    def test_one_within_another(self):
        bench = self.start()
        before = told(bench)
        seen = []

        def inner(given):
            given.undo()
            given.split(0)
            seen.append(told(given))
            raise NoEnd()

        def outer(given):
            given.turn(0)
            ahead = told(given)
            try:
                given.trying(inner)
            except NoEnd:
                seen.append(told(given) == ahead)
            given.trying(lambda again: again.ask(1, 1))
            return told(given) == ahead

        self.assertIs(bench.trying(outer), True)
        self.assertIs(seen[1], True)
        self.assertEqual(told(bench), before)

    def test_at_first(self):
        bench = Bench(a_path())
        bench.trying(lambda given: (given.split(0), given.split(1)))
        self.assertEqual((bench.chart(), bench.deeds()), (a_path(), 0))
        self.refused(bench, NothingDone, "undo")
        self.refused(bench, NothingDone, "redo")


class ErrorsTest(Checked):
    def test_no_end(self):
        chart = a_ring()
        bench = Bench(chart)
        for thing in WRONG_NUMBERS + [4, 5, True, False] + odd_things():
            for price in (1, 0, None, "x"):
                self.refused(bench, NoEnd, "put", thing, 0, price)
                self.refused(bench, NoEnd, "put", 0, thing, price)
                self.refused(bench, NoEnd, "put", thing, thing, price)
            self.refused(bench, NoEnd, "outside", thing)

    def test_no_arrow(self):
        bench = Bench(a_ring())
        for thing in WRONG_NUMBERS + [2, 3] + odd_things():
            for method in ("strike", "turn", "split"):
                self.refused(bench, NoArrow, method, thing)
            for price in (1, 0, None, "x"):
                self.refused(bench, NoArrow, "ask", thing, price)

    def test_no_price(self):
        bench = Bench(a_ring())
        for thing in WRONG_NUMBERS + [0, 1001] + [thing for thing in odd_things() if thing is not None]:
            self.refused(bench, NoPrice, "ask", 0, thing)
            self.refused(bench, NoPrice, "put", 0, 2, thing)
            self.refused(bench, NotOneRim, "put", 0, 1, thing)
        for price in (1, 1000, None):
            bench.ask(0, price)
            self.assertEqual(bench.chart().prices[0], price)

    def test_full(self):
        full = side_by_side((7,) * 80)
        bench = Bench(full)
        for thing in [0, 1001, True]:
            self.refused(bench, NoPrice, "put", 0, 0, thing)
            self.refused(bench, NotOneRim, "put", 0, 2, thing)
            self.refused(bench, NoEnd, "put", 0, 160, thing)
        self.refused(bench, Full, "put", 0, 0, 1)
        self.refused(bench, Full, "split", 79)
        self.refused(bench, NoArrow, "split", 80)
        bench.strike(79)
        bench.put(0, 0, 1)
        self.assertEqual(len(bench.chart().arrows), 80)
        bench.undo()
        bench.split(78)
        self.assertEqual((bench.chart().places, len(bench.chart().arrows)), (3, 80))

    def test_full_of_places(self):
        bench = Bench(chain((1,) * 38))
        bench.split(5)
        self.assertEqual(bench.chart().places, 40)
        for arrow in range(39):
            self.refused(bench, Full, "split", arrow)
        self.refused(bench, NoArrow, "split", 39)
        bench.put(0, 0, 1)
        self.assertEqual(len(bench.chart().arrows), 40)
        self.refused(bench, Full, "split", 39)

    def test_all_are_chart_errors(self):
        with self.assertRaises(ChartError):
            Bench(a_path()).strike(0)
        with self.assertRaises(ValueError):
            Bench(a_path()).redo()
