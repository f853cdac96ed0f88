"""Pictures that are made: points 2.2 and 4.1 of the document."""

import random
import unittest

from bigcorners.charts import Chart, tips
from bigcorners.dealings import count_dealings, dealing, is_dealing
from bigcorners.errors import NoDealing
from bigcorners.judging import big, cost, is_picture
from bigcorners.pictures import drawn, picture
from bigcorners.prices import fates, price, turnings
from tests.drawings import drawings
from tests.growing import (
    all_outers, chain, changed, great_charts, grid, grown_charts, known_shapes, rings_of_tips, spiked_ring, star,
    two_hubs,
)
from tests.searching import slow_dealings, spread_of, turned_in
from tests.things import a_path, a_ring, kept, nested, odd_things


def parts_are_whole(thing):
    """Whether a thing is made of tuples and integers alone."""
    return type(thing) is int or (type(thing) is tuple and all(parts_are_whole(item) for item in thing))


class PictureTest(unittest.TestCase):
    def check(self, chart, slow=False):
        """What is promised of a picture; returns how many turnings it has, or None."""
        copy = Chart(chart.places, chart.arrows, chart.rounds, chart.outer, chart.prices)
        made = picture(chart)
        self.assertEqual(made, picture(chart))
        self.assertEqual(chart, copy)
        if price(chart) is None:
            self.assertIsNone(made)
            return None
        self.assertTrue(parts_are_whole(made))
        self.assertIs(is_picture(chart, made), True)
        if slow:
            self.assertEqual(kept(chart, made), (True,) * 4)
        self.assertEqual(cost(chart, made), price(chart))
        many = sum(turned_in(made))
        self.assertLessEqual(max(spread_of(made)), 100 + 2 * many)
        for turns, word in zip(turned_in(made), fates(chart)):
            self.assertFalse(turns and word == "never")
            self.assertFalse(word == "always" and not turns)
        if not many:
            self.assertIs(is_dealing(chart, big(chart, made)), True)
        return many

    def test_small_charts_with_all_outer_rims(self):
        seen = []
        for chart in grown_charts(71, 120, 9, (None, 1, 2, 3)):
            seen += [self.check(outer, True) for outer in all_outers(chart)]
        self.assertGreater(min(seen.count(many) for many in (None, 0, 1, 2, 3)), 5)

    def test_all_prices_can_be_bought(self):
        for chart in grown_charts(72, 150, 14, (1, 5, 1000)):
            self.assertIsNotNone(self.check(chart))

    def test_arrows_that_can_not_be_bought(self):
        for chart in grown_charts(73, 60, 9):
            self.check(changed(chart, None, (None,) * len(chart.arrows)))
            for arrow in range(len(chart.arrows)):
                self.check(changed(chart, None, chart.prices[:arrow] + (None,) + chart.prices[arrow + 1:]))

    def test_known_shapes(self):
        for chart in known_shapes():
            for outer in all_outers(chart)[:6] + all_outers(chart)[-3:]:
                self.check(outer)

    def test_great_charts(self):
        seen = [self.check(chart) for chart in great_charts(74, 12) + great_charts(75, 12, (None, 1, 2, 3, 4, 5, 6))]
        self.assertIn(None, seen)
        self.assertGreater(max(many for many in seen if many is not None), 50)

    def test_a_great_chart_with_all_outer_rims(self):
        for chart in great_charts(76, 2):
            for outer in all_outers(chart)[::3]:
                self.check(outer)

    def test_an_arrow_that_turns_often(self):
        for many in (2, 3, 10):
            chart = spiked_ring(random.Random(many), many, 5)
            for outer in all_outers(chart):
                self.check(outer)
            self.assertEqual(max(turned_in(picture(chart))), many - 1)

    def test_charts_of_drawings(self):
        for chart, right in drawings(77, 120) + drawings(78, 40, True):
            self.check(chart)
            if cost(chart, right) is not None:
                self.assertLessEqual(cost(chart, picture(chart)), cost(chart, right))

    def test_small_pictures(self):
        self.assertEqual(turned_in(picture(a_ring())), (1, 0))
        self.assertEqual(turned_in(picture(a_ring(0, (5, 1)))), (0, 1))
        self.assertIsNone(picture(a_ring(0, (None, None))))
        self.assertEqual(turned_in(picture(Chart(1, ((0, 0),), ((0, 1),), 0, (3,)))), (1,))
        self.assertEqual(self.check(a_path()), 0)

    def test_turnings_of_the_chart_and_of_the_picture_cost_the_same(self):
        for chart in grown_charts(79, 60, 9, (1, 2, 3)):
            told = [sum(many * paid for many, paid in zip(row, chart.prices))
                    for row in (turnings(chart), turned_in(picture(chart)))]
            self.assertEqual(told[0], told[1])


class DrawnTest(unittest.TestCase):
    def check(self, chart, row, slow=False):
        copy = Chart(chart.places, chart.arrows, chart.rounds, chart.outer, chart.prices)
        made = drawn(chart, row)
        self.assertEqual(made, drawn(chart, row))
        self.assertEqual(chart, copy)
        self.assertTrue(parts_are_whole(made))
        self.assertIs(is_picture(chart, made), True)
        if slow:
            self.assertEqual(kept(chart, made), (True,) * 4)
        self.assertEqual(sum(turned_in(made)), 0)
        self.assertEqual(cost(chart, made), 0)
        self.assertEqual(big(chart, made), row)
        self.assertLessEqual(max(spread_of(made)), 100)

    def test_all_dealings_of_small_charts(self):
        many = 0
        for chart in grown_charts(81, 90, 7, (None, 1), (0, 0.8, 1)):
            for outer in all_outers(chart):
                for row in slow_dealings(outer):
                    many += 1
                    self.check(outer, row, many % 5 == 0)
        self.assertGreater(many, 200)

    def test_first_and_last_of_great_charts(self):
        rng = random.Random(82)
        charts = [
            grid(rng, 5, 8), two_hubs(rng, 38), rings_of_tips(rng, 8, 5), rings_of_tips(rng, 40, 1), star(39, 0),
            chain((1, 0) * 19),
        ]
        for chart in charts + [chart for chart in great_charts(83, 25) + known_shapes() if price(chart) == 0]:
            for number in (0, count_dealings(chart) // 2, count_dealings(chart) - 1):
                self.check(chart, dealing(chart, number))

    def test_big_angles_of_strangers(self):
        for chart, right in drawings(84, 200):
            if not sum(turned_in(right)):
                self.check(chart, big(chart, right))

    def test_no_dealing(self):
        chart = grid(random.Random(85), 2, 3)
        good = dealing(chart, 3)
        for at, place in enumerate(tips(chart)):
            for angle in range(-1, 2 * len(chart.arrows) + 1):
                thing = good[:at] + (angle,) + good[at + 1:]
                if is_dealing(chart, thing):
                    self.check(chart, thing)
                else:
                    with self.assertRaises(NoDealing):
                        drawn(chart, thing)

    def test_wrong_things(self):
        chart = star(3, 1)
        good = dealing(chart, 0)
        wrong = odd_things() + [0, (), good[1:], good + good[:1], good[::-1], list(good), (good,), nested(39, good)]
        wrong += [(thing,) + good[1:] for thing in odd_things()]
        for thing in wrong:
            self.assertIs(is_dealing(chart, thing), False)
            with self.assertRaises(NoDealing):
                drawn(chart, thing)
        for thing in [()] + odd_things():
            with self.assertRaises(NoDealing):
                drawn(a_ring(), thing)
        with self.assertRaises(NoDealing):
            drawn(a_path(), (False, True))
