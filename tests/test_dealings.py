"""Dealings: point 4.1 of the document, and the fourth fact, as far as it is about them and pictures."""

import random
import unittest

from bigcorners.charts import asks, rim_of, rims, tips
from bigcorners.dealings import count_dealings, dealing, is_dealing
from bigcorners.errors import NoNumber
from bigcorners.judging import big
from bigcorners.prices import price
from tests.drawings import drawings
from tests.growing import (
    all_outers, chain, great_charts, grid, grown_charts, known_shapes, nested_loops, rings_of_tips, side_by_side, star,
    two_hubs,
)
from tests.searching import slow_dealings
from tests.things import a_path, a_ring, nested, odd_things


def charts_with_few(seed, many):
    """Small charts, all their rims as outer ones, and their dealings by the slow search."""
    found = []
    for chart in grown_charts(seed, many, 7, (None, 1), (0, 0.8, 1, 1)):
        found += [(outer, slow_dealings(outer)) for outer in all_outers(chart)]
    return found


class SmallChartsTest(unittest.TestCase):
    def test_all_numbers(self):
        counts = []
        for chart, wanted in charts_with_few(51, 160):
            many = count_dealings(chart)
            self.assertIs(type(many), int)
            self.assertEqual(many, len(wanted))
            self.assertEqual([dealing(chart, number) for number in range(many)], wanted)
            self.assertEqual(wanted, sorted(set(wanted)))
            for number in (many, many + 1, -1, -many, 10 ** 19):
                with self.assertRaises(NoNumber):
                    dealing(chart, number)
            self.assertTrue(all(is_dealing(chart, row) is True for row in wanted))
            counts.append(many)
        self.assertGreater(counts.count(0), 50)
        self.assertGreater(len([many for many in counts if many > 3]), 20)

    def test_what_differs_in_one_angle(self):
        rng = random.Random(52)
        seen = {True: 0, False: 0}
        for chart, wanted in charts_with_few(53, 100):
            for row in wanted[:3]:
                at = rng.randrange(len(row))
                for angle in range(-1, 2 * len(chart.arrows) + 1):
                    thing = row[:at] + (angle,) + row[at + 1:]
                    seen[thing in wanted] += 1
                    self.assertIs(is_dealing(chart, thing), thing in wanted)
        self.assertGreater(min(seen.values()), 100)

    def test_right_angles_on_wrong_rims(self):
        for chart, wanted in charts_with_few(54, 60):
            for number in range(2):
                thing = tuple(sorted(chart.rounds[place])[-number] for place in tips(chart))
                self.assertIs(is_dealing(chart, thing), thing in wanted)

    def test_there_are_some_exactly_if_the_price_is_0(self):
        for chart, _ in charts_with_few(55, 100):
            self.assertEqual(count_dealings(chart) > 0, price(chart) == 0)
        for chart in great_charts(56, 12):
            self.assertEqual(count_dealings(chart) > 0, price(chart) == 0)

    def test_big_angles_of_pictures_without_turnings(self):
        many = 0
        for chart, picture in drawings(57, 400):
            if not any(turns for _, turns in picture[1]):
                many += 1
                self.assertIs(is_dealing(chart, big(chart, picture)), True)
                self.assertGreater(count_dealings(chart), 0)
                self.assertEqual(price(chart), 0)
        self.assertGreater(many, 100)


class KnownChartsTest(unittest.TestCase):
    def check_some(self, chart, many):
        """The first ones, the last ones and some between, and one beyond."""
        self.assertEqual(count_dealings(chart), many)
        numbers = sorted({at for at in (0, 1, many // 3, many // 2, many - 2, many - 1) if 0 <= at < many})
        rows = [dealing(chart, number) for number in numbers]
        self.assertEqual(rows, sorted(rows))
        self.assertEqual(len(set(rows)), len(rows))
        for row in rows:
            self.assertIs(type(row), tuple)
            self.assertTrue(all(type(angle) is int for angle in row))
            self.assertIs(is_dealing(chart, row), True)
            got = [rim_of(chart, angle) for angle in row]
            self.assertEqual(tuple(got.count(rim) for rim in range(len(rims(chart)))), asks(chart))
        for number in (many, -1, many + 10 ** 19):
            with self.assertRaises(NoNumber):
                dealing(chart, number)

    def test_trees_let_each_tip_choose(self):
        self.check_some(a_path(), 1)
        self.check_some(star(39, 0), 39)
        self.check_some(star(0, 5), 5)
        self.check_some(star(20, 19), 1)
        self.check_some(chain((1, 0) * 19), 2 ** 37)
        self.assertEqual(dealing(star(3, 0), 1), (2, 1, 3, 5))

    def test_side_by_side(self):
        for many in (1, 2, 7, 80):
            for chart in all_outers(side_by_side((1,) * many))[:9]:
                self.check_some(chart, 1)
                row = dealing(chart, 0)
                self.assertEqual({rim_of(chart, angle) for angle in row}, {rim_of(chart, chart.outer)})

    def test_none_at_all(self):
        for chart in (a_ring(), a_ring(2), nested_loops((1,)), nested_loops((1,) * 80)):
            self.check_some(chart, 0)
            with self.assertRaises(NoNumber):
                dealing(chart, 0)
            self.assertIs(is_dealing(chart, ()), False)

    def test_many(self):
        rng = random.Random(58)
        # A path of squares: the outer one of these rims takes what the squares leave.
        self.check_some(grid(rng, 2, 2), 4)
        self.check_some(grid(rng, 3, 3), 84)
        self.check_some(grid(rng, 5, 8), 7361894464)
        self.check_some(two_hubs(rng, 38), 76)
        self.check_some(rings_of_tips(rng, 40, 1), 131282408400)
        for around, many in ((4, 10), (8, 5), (10, 4), (20, 2)):
            chart = rings_of_tips(rng, around, many)
            self.check_some(chart, count_dealings(chart))
            self.assertGreater(count_dealings(chart), 10 ** 8)

    def test_what_moved_places_and_arrows_count(self):
        for shape in (lambda rng: grid(rng, 4, 6), lambda rng: two_hubs(rng, 9), lambda rng: rings_of_tips(rng, 6, 4)):
            counts = {tuple(sorted(map(count_dealings, all_outers(shape(random.Random(seed)))))) for seed in range(3)}
            self.assertEqual(len(counts), 1)

    def test_great_charts(self):
        for chart in great_charts(59, 15) + known_shapes():
            self.check_some(chart, count_dealings(chart))


class WrongThingsTest(unittest.TestCase):
    def test_no_dealings(self):
        chart = grid(random.Random(60), 2, 3)
        good = dealing(chart, 2)
        for thing in (good[1:], good[:-1], good + good[:1], good[::-1], good + good, list(good), (good,), (), None):
            self.assertIs(is_dealing(chart, thing), False)
        for thing in odd_things() + [nested(38, good), -1, 0, 10 ** 20 - 1, 2 * len(chart.arrows)]:
            self.assertIs(is_dealing(chart, thing), False)
            for at in range(len(good)):
                same = type(thing) is int and thing == good[at]
                self.assertIs(is_dealing(chart, good[:at] + (thing,) + good[at + 1:]), same)
                self.assertIs(is_dealing(chart, good[:at] + (thing,) + good[at:]), False)

    def test_flags_are_no_angles(self):
        self.assertIs(is_dealing(a_path(), (0, 1)), True)
        for thing in ((False, 1), (0, True), (False, True), [0, 1], (1, 0), (0, 0), (0,), (0, 1, 1), ((0, 1),), "01"):
            self.assertIs(is_dealing(a_path(), thing), False)

    def test_no_numbers(self):
        for chart in (a_path(), a_ring(), star(5, 0), grid(random.Random(61), 2, 2)):
            for number in odd_things() + ["1", (0,), [1], nested(40, 1), count_dealings(chart), -1, -10 ** 19]:
                with self.assertRaises(NoNumber):
                    dealing(chart, number)

    def test_twice_the_same_and_nothing_changed(self):
        chart, same = a_path(), a_path()
        self.assertEqual([dealing(chart, 0) for _ in range(2)], [(0, 1), (0, 1)])
        self.assertEqual([count_dealings(chart) for _ in range(2)], [1, 1])
        self.assertEqual(chart, same)
