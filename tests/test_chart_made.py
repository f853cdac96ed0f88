"""bigcorners.charts: class Chart [1.1]: what makes a chart, what makes none, what is kept, what is equal."""

import random
import unittest

from bigcorners.charts import Chart
from bigcorners.errors import BadChart, ChartError
from tests.things import a_path, a_ring, nested, odd_things, random_charts, raw_rims

# A triangle: 0 leads to 1 and 2, 1 leads to 2. Each round has two ends, so it is flat however they lie.
TRIANGLE = (3, ((0, 1), (1, 2), (0, 2)), ((0, 4), (1, 2), (3, 5)), 0, (1, None, 1000))


def part_of(*parts):
    """The part with which BadChart is raised, or None."""
    try:
        Chart(*parts)
    except BadChart as error:
        return error.part
    return None


def changed(**new):
    """The triangle with other arguments."""
    names = ("places", "arrows", "rounds", "outer", "prices")
    return tuple(new.get(name, part) for name, part in zip(names, TRIANGLE))


def item_changed(row, at, item):
    """A tuple with one other item."""
    return row[:at] + (item,) + row[at + 1:]


def flower(loops):
    """The parts of a chart with one place and so many loops, side by side."""
    return 1, ((0, 0),) * loops, (tuple(range(2 * loops)),), 0, (1,) * loops


def snake(places):
    """The parts of a chart with so many places in a row."""
    arrows = tuple((place, place + 1) for place in range(places - 1))
    rounds = ((0,),) + tuple((2 * k + 1, 2 * k + 2) for k in range(places - 2)) + ((2 * places - 3,),)
    return places, arrows, rounds, 0, (1,) * (places - 1)


class RightTest(unittest.TestCase):
    def test_attributes(self):
        chart = Chart(*TRIANGLE)
        self.assertEqual(
            (chart.places, chart.arrows, chart.rounds, chart.outer, chart.prices), TRIANGLE
        )

    def test_places_and_arrows_at_their_limits(self):
        self.assertEqual(Chart(*snake(40)).places, 40)
        self.assertEqual(Chart(*flower(1)).places, 1)
        self.assertEqual(len(Chart(*flower(80)).arrows), 80)
        self.assertEqual(len(a_path().arrows), 1)

    def test_prices_at_their_limits(self):
        for price in (1, 2, 999, 1000, None):
            self.assertEqual(a_path(price).prices, (price,))

    def test_loops_and_several_arrows_between_two_places(self):
        chart = Chart(2, ((0, 0), (0, 1), (0, 1), (1, 0)), ((0, 1, 2, 4, 7), (6, 5, 3)), 0, (1,) * 4)
        self.assertEqual(chart.arrows, ((0, 0), (0, 1), (0, 1), (1, 0)))
        self.assertEqual(chart.rounds, ((0, 1, 2, 4, 7), (3, 6, 5)))

    def test_random_charts(self):
        for chart in random_charts(1, 200):
            self.assertEqual(len(raw_rims(chart.rounds)) + chart.places, len(chart.arrows) + 2)

    def test_each_part_is_a_tuple_of_tuples(self):
        for chart in random_charts(2, 30):
            for row in (chart.arrows, chart.rounds, chart.prices) + chart.arrows + chart.rounds:
                self.assertIs(type(row), tuple)


class KeptTest(unittest.TestCase):
    def test_rounds_told_from_any_end(self):
        rng = random.Random(3)
        for chart in random_charts(3, 100):
            for _ in range(5):
                at = [rng.randrange(len(row)) for row in chart.rounds]
                rounds = tuple(row[k:] + row[:k] for k, row in zip(at, chart.rounds))
                other = Chart(chart.places, chart.arrows, rounds, chart.outer, chart.prices)
                self.assertEqual(other.rounds, chart.rounds)
                self.assertTrue(other == chart)
            for row in chart.rounds:
                self.assertEqual(row[0], min(row))

    def test_order_is_kept(self):
        rounds = ((5, 2, 0, 1, 3, 4),)
        chart = Chart(1, ((0, 0),) * 3, rounds, 0, (1,) * 3)
        self.assertEqual(chart.rounds, ((0, 1, 3, 4, 5, 2),))

    def test_outer_is_any_angle_of_its_rim(self):
        for chart in random_charts(4, 100):
            for rim in raw_rims(chart.rounds):
                made = [Chart(chart.places, chart.arrows, chart.rounds, angle, chart.prices) for angle in rim]
                self.assertEqual([other.outer for other in made], [min(rim)] * len(rim))
                self.assertTrue(all(other == made[0] for other in made))

    def test_of_another_rim_it_differs(self):
        self.assertFalse(a_ring(0) == a_ring(1))
        self.assertTrue(a_ring(0) == a_ring(2))
        self.assertTrue(a_ring(1) == a_ring(3))


class EqualTest(unittest.TestCase):
    def test_equal(self):
        self.assertTrue(a_ring() == a_ring())
        self.assertFalse(a_ring() != a_ring())

    def test_each_attribute_counts(self):
        loops = Chart(1, ((0, 0),) * 3, ((0, 1, 2, 3, 4, 5),), 0, (1,) * 3)
        bent = Chart(1, ((0, 0),) * 3, ((0, 1, 2, 4, 5, 3),), 0, (1,) * 3)
        pairs = [
            (a_ring(), a_ring(1)),
            (a_ring(), a_ring(0, (1, 4))),
            (a_ring(), a_ring(0, (1, None))),
            (Chart(*snake(3)), Chart(*flower(2))),
            (Chart(2, ((0, 1), (0, 1)), ((0, 2), (1, 3)), 0, (1, 5)), a_ring()),
            (loops, bent),
        ]
        for one, other in pairs:
            self.assertFalse(one == other)
            self.assertTrue(one != other)

    def test_nothing_of_another_kind(self):
        class Twin:
            def __init__(self):
                self.__dict__.update(vars(a_ring(1)))

        class Below(Chart):
            pass

        chart = a_ring(1)
        below = Below(chart.places, chart.arrows, chart.rounds, chart.outer, chart.prices)
        same = (chart.places, chart.arrows, chart.rounds, chart.outer, chart.prices)
        for other in [same, list(same), Twin(), below] + odd_things():
            self.assertIs(chart == other, False)
            self.assertIs(chart != other, True)
            self.assertIs(other == chart, False)

    def test_nothing_passed_is_changed(self):
        given = changed(rounds=((4, 0), (2, 1), (5, 3)), outer=5)
        before = repr(given)
        Chart(*given)
        self.assertEqual(repr(given), before)


class WrongTest(unittest.TestCase):
    def test_is_a_chart_error(self):
        with self.assertRaises(ChartError):
            Chart(0, (), (), 0, ())

    def test_places(self):
        for places in [0, -1, 41, 10 ** 19, -10 ** 19, ()] + odd_things():
            self.assertEqual(part_of(*changed(places=places)), ("places",))
        self.assertEqual(part_of(*snake(41)), ("places",))
        self.assertIsNone(part_of(*snake(40)))

    def test_places_that_do_not_fit(self):
        self.assertEqual(part_of(*changed(places=2)), ("arrow", 1))
        self.assertEqual(part_of(*changed(places=4)), ("rounds",))

    def test_arrows(self):
        for arrows in [(), 3, list(TRIANGLE[1]), dict(TRIANGLE[1]), ((0, 1),) * 81, ((0, 9),) * 81]:
            self.assertEqual(part_of(*changed(arrows=arrows)), ("arrows",))
        for arrows in odd_things():
            tall = isinstance(arrows, tuple) and 1 <= len(arrows) <= 80
            self.assertEqual(part_of(*changed(arrows=arrows)), ("arrow", 0) if tall else ("arrows",))
        self.assertEqual(part_of(*flower(81)), ("arrows",))
        self.assertIsNone(part_of(*flower(80)))

    def test_arrow(self):
        wrong = [
            (), (0,), (0, 1, 2), [0, 1], (0, 3), (3, 0), (-1, 0), (0, -1), (0, True), (False, 1), (None, 0), ("0", "1"),
            (0, (1,)), ((0,), 1), 0, 5, (10 ** 19, 0), (0, nested(39)), "01", {0: 1, 1: 0},
        ] + odd_things() + [(0, thing) for thing in odd_things()] + [(thing, 0) for thing in odd_things()]
        for at in range(3):
            for pair in wrong:
                arrows = item_changed(TRIANGLE[1], at, pair)
                self.assertEqual(part_of(*changed(arrows=arrows)), ("arrow", at))

    def test_first_arrow(self):
        self.assertEqual(part_of(*changed(arrows=((0, 1), (1, 3), None))), ("arrow", 1))
        self.assertEqual(part_of(*changed(arrows=((0, 3), (1, 3), None))), ("arrow", 0))

    def test_rounds(self):
        for rounds in [(), 3, list(TRIANGLE[2]), TRIANGLE[2][:2], TRIANGLE[2] + ((),), TRIANGLE[2][0]] + odd_things():
            self.assertEqual(part_of(*changed(rounds=rounds)), ("rounds",))

    def test_round(self):
        right = TRIANGLE[2]
        for at in range(3):
            row = right[at]
            wrong = [
                (), row[:1], row[1:], row + row[:1], row + row, list(row), (row[0], row[0]), (row[1], row[1]),
                (row[0], 6), (-1, row[1]), right[(at + 1) % 3], (row[0], (row[1],)), (row,), 0, str(row),
                (row[0], right[(at + 1) % 3][0]), {row[0]: 0, row[1]: 0}, range(*row),
            ] + odd_things() + [(row[0], thing) for thing in odd_things()] + [(thing, row[1]) for thing in odd_things()]
            for other in wrong:
                rounds = item_changed(right, at, other)
                self.assertEqual(part_of(*changed(rounds=rounds)), ("round", at), (at, other))

    def test_flags_are_no_ends(self):
        self.assertEqual(part_of(*changed(rounds=((False, 4), (1, 2), (3, 5)))), ("round", 0))
        self.assertEqual(part_of(*changed(rounds=((0, 4), (True, 2), (3, 5)))), ("round", 1))

    def test_first_round(self):
        self.assertEqual(part_of(*changed(rounds=((0, 4), (1,), None))), ("round", 1))
        self.assertEqual(part_of(*changed(rounds=((0, 4), (1, 2), (3, 2)))), ("round", 2))

    def test_round_of_a_place_without_ends(self):
        self.assertEqual(part_of(2, ((0, 0),), ((0, 1), ()), 0, (1,)), ("apart",))
        self.assertEqual(part_of(2, ((0, 0),), ((0, 1), (0,)), 0, (1,)), ("round", 1))
        self.assertEqual(part_of(2, ((0, 0),), ((0, 1), None), 0, (1,)), ("round", 1))

    def test_apart(self):
        arrows = ((0, 1), (2, 3))
        self.assertEqual(part_of(4, arrows, ((0,), (1,), (2,), (3,)), 0, (1, 1)), ("apart",))
        # As many places and rims as for a flat chart, but in two parts, one of them not flat.
        arrows = ((0, 0), (0, 0), (1, 1))
        self.assertEqual(part_of(2, arrows, ((0, 2, 1, 3), (4, 5)), 0, (1, 1, 1)), ("apart",))

    def test_hanging_together_whichever_way_the_arrows_lead(self):
        for arrows in (((3, 2), (2, 1), (1, 0)), ((0, 1), (2, 1), (2, 3)), ((1, 0), (1, 2), (3, 2))):
            ends = [[] for _ in range(4)]
            for k, (tail, head) in enumerate(arrows):
                ends[tail].append(2 * k)
                ends[head].append(2 * k + 1)
            self.assertIsNone(part_of(4, arrows, tuple(map(tuple, ends)), 0, (1,) * 3))

    def test_flat(self):
        self.assertEqual(part_of(1, ((0, 0), (0, 0)), ((0, 2, 1, 3),), 0, (1, 1)), ("flat",))
        arrows = ((0, 1), (0, 1), (0, 1))
        self.assertEqual(part_of(2, arrows, ((0, 2, 4), (1, 3, 5)), 0, (1,) * 3), ("flat",))
        self.assertIsNone(part_of(2, arrows, ((0, 2, 4), (5, 3, 1)), 0, (1,) * 3))
        # Two handles: four rims less than a flat chart has.
        self.assertEqual(part_of(1, ((0, 0),) * 4, ((0, 2, 1, 3, 4, 6, 5, 7),), 0, (1,) * 4), ("flat",))

    def test_outer(self):
        for outer in [-1, 6, 7, 10 ** 19, -10 ** 19, (), (0,)] + odd_things():
            self.assertEqual(part_of(*changed(outer=outer)), ("outer",))
        for outer in range(6):
            self.assertIsNone(part_of(*changed(outer=outer)))

    def test_prices(self):
        for prices in [(), (1, 1), (1, 1, 1, 1), [1, 1, 1], 1] + odd_things():
            self.assertEqual(part_of(*changed(prices=prices)), ("prices",))

    def test_price(self):
        wrong = [0, -1, 1001, 10 ** 19, (), (1,), "1", True] + [thing for thing in odd_things() if thing is not None]
        for at in range(3):
            for price in wrong:
                self.assertEqual(part_of(*changed(prices=item_changed(TRIANGLE[4], at, price))), ("prices",))


class OrderTest(unittest.TestCase):
    def test_the_first_by_its_words_is_told(self):
        apart = {"places": 3, "arrows": ((0, 0), (1, 2), (1, 2)), "rounds": ((0, 1), (2, 4), (3, 5))}
        tied = {"places": 1, "arrows": ((0, 0),) * 3, "rounds": ((0, 2, 1, 3, 4, 5),)}
        rows = [
            (("places",), {"places": 0}), (("arrows",), {"arrows": []}), (("arrow", 1), {"arrows": ((0, 0), 0, None)}),
            (("rounds",), {"rounds": []}), (("apart",), apart), (("flat",), tied),
            (("outer",), {"outer": 6}), (("prices",), {"prices": (1, 1)}),
        ]
        for k, (part, new) in enumerate(rows):
            self.assertEqual(part_of(*changed(**new)), part)
            for _, other in rows[k + 1:]:
                self.assertEqual(part_of(*changed(**{**other, **new})), part)

    def test_round_ahead_of_all_behind_it(self):
        rounds = ((0, 4), (1,), (3, 5))
        self.assertEqual(part_of(*changed(rounds=rounds, outer=6, prices=())), ("round", 1))
        self.assertEqual(part_of(*changed(arrows=((0, 3),) * 3, rounds=rounds)), ("arrow", 0))
        arrows = ((0, 0), (0, 0), (0, 1))
        self.assertEqual(part_of(2, arrows, ((0, 2, 1, 3, 4), (4,)), 0, (1,) * 3), ("round", 1))
        self.assertEqual(part_of(2, arrows, ((0, 2, 1, 3, 4), (5,)), 0, (1,) * 3), ("flat",))

    def test_apart_ahead_of_flat(self):
        self.assertEqual(part_of(2, ((0, 0), (0, 0)), ((0, 2, 1, 3), ()), 0, (1, 1)), ("apart",))

    def test_all_wrong(self):
        self.assertEqual(part_of(None, None, None, None, None), ("places",))
        self.assertEqual(part_of(1, None, None, None, None), ("arrows",))
        self.assertEqual(part_of(1, ((0, 1),), None, None, None), ("arrow", 0))
        self.assertEqual(part_of(1, ((0, 0),), None, None, None), ("rounds",))
        self.assertEqual(part_of(1, ((0, 0),), (None,), None, None), ("round", 0))
        self.assertEqual(part_of(1, ((0, 0),), ((0, 1),), None, None), ("outer",))
        self.assertEqual(part_of(1, ((0, 0),), ((0, 1),), 1, None), ("prices",))
