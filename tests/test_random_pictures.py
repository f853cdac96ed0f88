"""bigcorners.judging on random drawings: beside the slow judge of tests/things.py, which follows the words."""

import random
import unittest

from bigcorners.charts import Chart, asks, rim_of, rims, sides, tangled, tips, word_at
from bigcorners.errors import NoPicture
from bigcorners.judging import big, cost, is_picture
from tests.drawings import arched, drawings, lowest_rim, mirrored, moved, nudged, wrinkled
from tests.things import ends_around, kept, tagged_bars

DRAWN = drawings(1, 200) + drawings(2, 60, True)
ARCHED = [arched(random.Random(k), chart, picture) for k, (chart, picture) in enumerate(DRAWN)]
PLAIN = DRAWN + [pair for pair in ARCHED if pair is not None]
ALL = PLAIN + [(chart, wrinkled(random.Random(k), chart, picture)) for k, (chart, picture) in enumerate(PLAIN)]


class RandomTest(unittest.TestCase):
    def test_right_pictures(self):
        for chart, picture in ALL:
            self.assertEqual(kept(chart, picture), (True,) * 4)
            self.assertIs(is_picture(chart, picture), True)

    def test_they_are_of_many_kinds(self):
        highest = [max((bar[0], -bar[1], tag[0]) for tag, bar in tagged_bars(*pair))[2] for pair in ALL]
        self.assertGreater(highest.count("turn"), 200)
        self.assertGreater(highest.count("place"), 200)
        self.assertGreater(max(len(turns) for _, picture in ALL for _, turns in picture[1]), 6)
        self.assertGreater(max(len(chart.arrows) for chart, _ in ALL), 12)

    def test_same_outside_seen_from_below(self):
        for chart, picture in ALL:
            self.assertEqual(lowest_rim(chart, picture), rim_of(chart, chart.outer))

    def test_moved_spread_and_mirrored(self):
        for chart, picture in ALL:
            self.assertTrue(is_picture(chart, moved(picture, lambda h, c: (3 * h - 10, 2 * c + 10 ** 12))))
            flipped = moved(picture, lambda h, c: (h, -c))
            self.assertTrue(is_picture(mirrored(chart), flipped))
            self.assertEqual(is_picture(chart, flipped), all(kept(chart, flipped)))

    def test_any_outer_rim(self):
        for chart, picture in ALL:
            for number, rim in enumerate(rims(chart)):
                other = Chart(chart.places, chart.arrows, chart.rounds, rim[0], chart.prices)
                self.assertEqual(is_picture(other, picture), number == rim_of(chart, chart.outer))

    def test_nudged(self):
        rng = random.Random(7)
        seen = {}
        for chart, picture in ALL:
            for _ in range(8):
                other = nudged(rng, picture)
                if rng.random() < 0.4:
                    other = nudged(rng, other)
                if all(bar[1] <= bar[2] for _, bar in tagged_bars(chart, other)):
                    found = kept(chart, other)
                    self.assertEqual(is_picture(chart, other), all(found), (vars(chart), other))
                    seen[found] = seen.get(found, 0) + 1
                else:
                    self.assertFalse(is_picture(chart, other))
        self.assertGreater(seen[(True,) * 4], 100)
        self.assertGreater(seen[(False, True, True, True)], 100)
        self.assertGreater(seen[(True, False, True, True)], 50)

    def test_cost(self):
        for chart, picture in ALL:
            parts = [(price, len(turns) // 2) for price, (_, turns) in zip(chart.prices, picture[1])]
            if any(price is None and many for price, many in parts):
                self.assertIsNone(cost(chart, picture))
            else:
                self.assertEqual(cost(chart, picture), sum(price * many for price, many in parts if many))

    def test_big(self):
        for chart, picture in ALL:
            self.assertEqual(big(chart, picture), tuple(ends_around(chart, picture, tip)[-1] for tip in tips(chart)))
            for tip, angle in zip(tips(chart), big(chart, picture)):
                self.assertEqual(word_at(chart, angle), "fork" if chart.rounds[tip][0] % 2 == 0 else "meet")

    def test_no_picture(self):
        rng = random.Random(8)
        for chart, picture in ALL:
            other = nudged(rng, picture)
            for function in (cost, big):
                if is_picture(chart, other):
                    function(chart, other)
                else:
                    with self.assertRaises(NoPicture):
                        function(chart, other)

    def test_big_angles_of_pictures_without_turnings_meet_what_rims_ask_for(self):
        for chart, picture in ALL:
            self.assertIsNone(tangled(chart))
            if not any(turns for _, turns in picture[1]):
                many = [0] * len(rims(chart))
                for angle in big(chart, picture):
                    many[rim_of(chart, angle)] += 1
                self.assertEqual(tuple(many), asks(chart))

    def test_sides_as_they_are_seen(self):
        # The arrow whose line is the leftmost of all has the outer rim at its left.
        for chart, picture in ALL:
            lines = [(min(columns), columns, arrow) for arrow, (columns, _) in enumerate(picture[1])]
            _, columns, arrow = min(lines)
            if columns.index(min(columns)) % 2 == 0:
                self.assertEqual(sides(chart, arrow)[0], rim_of(chart, chart.outer))
