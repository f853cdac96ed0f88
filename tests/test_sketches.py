"""bigcorners.sketches.sketch: pictures in signs [5.1]."""

import random
import unittest

from bigcorners.charts import Chart
from bigcorners.errors import NoPicture
from bigcorners.judging import is_picture
from bigcorners.pictures import picture
from bigcorners.sketches import sketch
from tests.drawings import arched, drawings, moved, nudged, wrinkled
from tests.growing import all_outers, chain, great_charts, grown_charts, known_shapes
from tests.searching import parts_of, spread_of
from tests.sketching import SIGNS, slow_sketch
from tests.things import a_path, a_ring, nested, odd_things, random_charts

DRAWN = drawings(11, 150) + drawings(12, 50, True)
ARCHED = [arched(random.Random(k), chart, made) for k, (chart, made) in enumerate(DRAWN)]
PLAIN = DRAWN + [pair for pair in ARCHED if pair is not None]


def made_pictures():
    """Charts with pictures that are made of them."""
    found = [(chart, picture(chart)) for chart in grown_charts(13, 60, 9) + known_shapes()]
    return [(chart, made) for chart, made in found if made is not None and max(spread_of(made)) <= 60]


def straight(low, high, width=0, left=0):
    """The picture of a path from a height up to another, its upper bar so wide."""
    return (((low, left, left), (high, left, left + width)), (((left,), ()),))


def zigzag(many):
    """A picture of a path whose arrow turns so often."""
    turns = []
    for at in range(2 * many):
        turns.append((3 if at % 2 == 0 else 1, at, at + 1))
    return (((0, 0, 0), (4, 2 * many, 2 * many)), ((tuple(range(2 * many + 1)), tuple(turns)),))


class SketchTest(unittest.TestCase):
    def test_example(self):
        self.assertEqual(sketch(a_path(), (((0, 0, 0), (1, 0, 1)), (((0,), ()),))), "BBB\n|\nA\n")

    def test_by_hand(self):
        ring = a_ring()
        turned = (((0, 0, 0), (1, 0, 0)), (((0,), ()), ((0, -1, 0), ((2, -1, 0), (-1, -1, 0)))))
        self.assertEqual(sketch(ring, turned), "+++\n| |\n| B\n| |\n| A\n| |\n+++\n")
        wide = (((0, 0, 2), (3, -1, 0)), (((0,), ()), ((-1, -3, 1), ((5, -4, 0), (-2, -3, 1)))))
        text = "+++++++++\n" + "  |   |\n" * 3 + "  |   BBB\n" + "  |     |\n" * 5 + "  |     AAAAA\n"
        text += "  |       |\n" * 3 + "  +++++++++\n"
        self.assertIs(is_picture(ring, wide), True)
        self.assertEqual(sketch(ring, wide), text)

    def test_bars_of_one_height_stand_apart(self):
        chart = Chart(3, ((0, 1), (0, 2)), ((0, 2), (1,), (3,)), 0, (1, 1))
        text = "BBB CCC\n|   |\n|   |\n|   |\nAAAAA\n"
        self.assertEqual(sketch(chart, (((0, 0, 2), (2, 0, 1), (2, 2, 3)), (((0,), ()), ((2,), ())))), text)

    def test_lines_beside_bars_and_over_them(self):
        chart = Chart(3, ((0, 1), (0, 2), (1, 2)), ((0, 2), (4, 1), (3, 5)), 5, (1, 1, 1))
        made = (((0, 0, 1), (1, 0, 0), (2, 0, 1)), (((0,), ()), ((1,), ()), ((0,), ())))
        self.assertEqual(sketch(chart, made), "CCC\n| |\nB |\n| |\nAAA\n")

    def test_drawings_against_the_words(self):
        for chart, made in PLAIN:
            self.assertEqual(sketch(chart, made), slow_sketch(chart, made))
        for k, (chart, made) in enumerate(PLAIN[::7]):
            rough = wrinkled(random.Random(k), chart, made)
            self.assertEqual(sketch(chart, rough), slow_sketch(chart, rough))

    def test_made_pictures_against_the_words(self):
        for chart, made in made_pictures():
            self.assertEqual(sketch(chart, made), slow_sketch(chart, made))

    def test_rows(self):
        for chart, made in PLAIN + made_pictures():
            text = sketch(chart, made)
            rows = text.split("\n")
            bars, _ = parts_of(made)
            heights = [bar[0] for bar in bars]
            self.assertEqual(rows.pop(), "")
            self.assertEqual(len(rows), 2 * (max(heights) - min(heights)) + 1)
            self.assertFalse(any(row.endswith(" ") for row in rows))
            for row in rows[1::2]:
                self.assertLessEqual(set(row), set(" |"))
            self.assertTrue(any(row[:1] not in ("", " ") for row in rows))

    def test_moved_about(self):
        for chart, made in PLAIN[::3]:
            text = sketch(chart, made)
            for up, right in ((-7, 0), (0, -12), (10 ** 19, -10 ** 19), (3, 4)):
                self.assertEqual(sketch(chart, moved(made, lambda h, c: (h + up, c + right))), text)

    def test_signs_of_forty_places(self):
        for chart in (chain((1,) * 39), chain((1, 0) * 19 + (1,))):
            text = sketch(chart, picture(chart))
            self.assertEqual(sorted(set(text) - set("|\n ")), sorted(SIGNS))
            self.assertEqual(SIGNS[26:], "abcdefghijklmn")
            self.assertEqual(text, slow_sketch(chart, picture(chart)))
        tower = (tuple((place, 0, 0) for place in range(40)), (((0,), ()),) * 39)
        self.assertEqual(sketch(chain((1,) * 39), tower), "\n|\n".join(reversed(SIGNS)) + "\n")

    def test_great_charts(self):
        for chart in great_charts(14, 12):
            made = picture(chart)
            if made is not None and max(spread_of(made)) <= 400:
                self.assertEqual(len(sketch(chart, made).split("\n")), 2 * spread_of(made)[0] + 2)

    def test_twice_the_same_and_nothing_changed(self):
        for chart, made in PLAIN[::5]:
            kept = Chart(chart.places, chart.arrows, chart.rounds, chart.outer, chart.prices)
            before = repr(made)
            self.assertEqual(sketch(chart, made), sketch(chart, made))
            self.assertEqual(repr(made), before)
            self.assertEqual(chart, kept)


class FarApartTest(unittest.TestCase):
    def test_heights(self):
        for low in (0, -200, 10 ** 18):
            text = sketch(a_path(), straight(low, low + 400))
            self.assertEqual(text, "B\n" + "|\n" * 799 + "A\n")
            with self.assertRaises(NoPicture):
                sketch(a_path(), straight(low, low + 401))

    def test_columns(self):
        for left in (0, -200, -10 ** 18):
            text = sketch(a_path(), straight(0, 1, 400, left))
            self.assertEqual(text, "B" * 801 + "\n|\nA\n")
            with self.assertRaises(NoPicture):
                sketch(a_path(), straight(0, 1, 401, left))

    def test_heights_and_columns_of_turnings(self):
        for far, right in ((400, True), (401, False)):
            high = (((0, 0, 0), (1, 0, 0)), (((0,), ()), ((0, -1, 0), ((far - 1, -1, 0), (-1, -1, 0)))))
            wide = (((0, 0, 0), (1, 0, 0)), (((0,), ()), ((0, -far, 0), ((2, -far, 0), (-1, -far, 0)))))
            for made in (high, wide):
                self.assertIs(is_picture(a_ring(), made), True)
                if right:
                    self.assertEqual(sketch(a_ring(), made), slow_sketch(a_ring(), made))
                else:
                    with self.assertRaises(NoPicture):
                        sketch(a_ring(), made)

    def test_huge(self):
        with self.assertRaises(NoPicture):
            sketch(a_path(), straight(-10 ** 19, 10 ** 19))
        with self.assertRaises(NoPicture):
            sketch(a_path(), straight(0, 1, 10 ** 19))

    def test_a_hundred_turnings(self):
        self.assertEqual(sketch(a_path(), zigzag(100)), slow_sketch(a_path(), zigzag(100)))
        with self.assertRaises(NoPicture):
            sketch(a_path(), zigzag(101))

    def test_both_400(self):
        text = sketch(a_path(), straight(0, 400, 400))
        self.assertEqual(text, "B" * 801 + "\n" + "|\n" * 799 + "A\n")


class NoPictureTest(unittest.TestCase):
    def test_odd_things(self):
        good = straight(0, 1)
        wrong = odd_things() + [0, (), [good], list(good), good + good, nested(38, good), sketch(a_path(), good)]
        wrong += [(thing, good[1]) for thing in odd_things()] + [(good[0], thing) for thing in odd_things()]
        wrong += [(((0, 0, 0), thing), good[1]) for thing in odd_things()]
        wrong += [(good[0], ((thing, ()),)) for thing in odd_things()]
        wrong += [(((0, 0, 0), (1, thing, 0)), good[1]) for thing in odd_things()]
        for thing in wrong:
            with self.assertRaises(NoPicture):
                sketch(a_path(), thing)

    def test_pictures_of_another_chart(self):
        charts = random_charts(15, 40)
        for chart, made in PLAIN[::9]:
            for other in charts + all_outers(chart):
                if is_picture(other, made):
                    self.assertEqual(sketch(other, made), sketch(chart, made))
                else:
                    with self.assertRaises(NoPicture):
                        sketch(other, made)

    def test_pictures_that_are_not_right(self):
        rng = random.Random(16)
        seen = []
        for chart, made in PLAIN:
            other = nudged(rng, made)
            seen.append(is_picture(chart, other))
            if seen[-1]:
                self.assertEqual(sketch(chart, other), slow_sketch(chart, other))
            else:
                with self.assertRaises(NoPicture):
                    sketch(chart, other)
        self.assertGreater(min(seen.count(True), seen.count(False)), 20)
