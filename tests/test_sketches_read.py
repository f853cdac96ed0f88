"""bigcorners.sketches.read_sketch: pictures read back [5.2]."""

import random
import unittest
from itertools import product

from bigcorners.charts import Chart, rims
from bigcorners.errors import BadText, NoSketch
from bigcorners.judging import is_picture
from bigcorners.pictures import picture
from bigcorners.sketches import read_sketch, sketch
from tests.drawings import wrinkled
from tests.growing import chain, great_charts, side_by_side, star
from tests.searching import parts_of, spread_of
from tests.sketching import SIGNS, normal, slow_read, slow_sketch
from tests.test_sketches import PLAIN, made_pictures, straight, zigzag
from tests.things import a_path, a_ring, kept, nested, odd_things

RING = "+++\n| |\n| B\n| |\n| A\n| |\n+++\n"


def read(text):
    """The pair, or None."""
    try:
        return read_sketch(text)
    except NoSketch:
        return None


def mutated(rng, text):
    """A text changed a little."""
    rows, signs = text.split("\n"), list(text)
    at, row, other = rng.randrange(len(signs)), rng.randrange(len(rows)), rng.randrange(len(rows))
    one, two = rng.choice("ABCDE+| "), rng.choice("ABCDE+|")
    kind = rng.randrange(9)
    if kind == 0:
        signs[at] = rng.choice("ABCDEFabn+| \noz-")
    elif kind == 1:
        del signs[at]
    elif kind == 2:
        signs.insert(at, rng.choice("ABCDE+|  \n"))
    elif kind == 3:
        del rows[row]
    elif kind == 4:
        rows.insert(row, rows[other])
    elif kind == 5:
        rows[row], rows[other] = rows[other], rows[row]
    elif kind == 6:
        rows[row] = rows[row][::-1]
    elif kind == 7:
        return text.replace(one, two)
    else:
        return text.replace(one, "~").replace(two, one).replace("~", two)
    return "".join(signs) if kind < 3 else "\n".join(rows)


class ReadTest(unittest.TestCase):
    def check(self, chart, made):
        text = sketch(chart, made)
        pair = read_sketch(text)
        self.assertIs(type(pair), tuple)
        self.assertEqual(pair, normal(chart, made))
        self.assertEqual(pair, read_sketch(text))
        found, again = pair
        self.assertIs(is_picture(found, again), True)
        self.assertEqual(sketch(found, again), text)
        every, columns = parts_of(again)
        self.assertEqual(min(bar[0] for bar in every), 0)
        self.assertEqual(min([bar[1] for bar in every] + columns), 0)
        self.assertEqual(found.prices, (1,) * len(found.arrows))
        keys = [(tail, way[0][0]) for (tail, _), way in zip(found.arrows, again[1])]
        self.assertEqual(keys, sorted(set(keys)))

    def test_drawings(self):
        for chart, made in PLAIN:
            self.check(chart, made)
        for k, (chart, made) in enumerate(PLAIN[::5]):
            self.check(chart, wrinkled(random.Random(k), chart, made))

    def test_made_pictures(self):
        for chart, made in made_pictures():
            self.check(chart, made)

    def test_great_charts(self):
        for chart in great_charts(21, 10) + [chain((1,) * 39), star(20, 19), side_by_side((7,) * 80)]:
            made = picture(chart)
            if made is not None and max(spread_of(made)) <= 400:
                self.check(chart, made)

    def test_slow_judge(self):
        for chart, made in PLAIN[::4]:
            self.assertEqual(kept(*read_sketch(sketch(chart, made))), (True,) * 4)

    def test_example(self):
        self.assertEqual(read_sketch("B\n|\nA\n"), (a_path(), (((0, 0, 0), (1, 0, 0)), (((0,), ()),))))

    def test_by_hand(self):
        ways = (((1,), ()), ((1, 0, 1), ((3, 0, 1), (0, 0, 1))))
        self.assertEqual(read_sketch(RING), (a_ring(0, (1, 1)), (((1, 1, 1), (2, 1, 1)), ways)))

    def test_arrows_are_numbered_by_their_tails_then_from_left_to_right(self):
        chart, made = read_sketch("AAAAA\n| | |\nB | CCC\n  | |\n  DDD\n")
        self.assertEqual(chart.arrows, ((1, 0), (2, 0), (3, 0), (3, 2)))
        self.assertEqual([way[0] for way in made[1]], [(0,), (2,), (1,), (2,)])
        self.assertEqual(made[0], ((2, 0, 2), (1, 0, 0), (1, 2, 3), (0, 1, 2)))
        self.assertEqual(chart.rounds, ((1, 3, 5), (0,), (2, 7), (4, 6)))

    def test_rounds_and_outer_as_a_chart_keeps_them(self):
        for chart, made in PLAIN:
            found, _ = read_sketch(sketch(chart, made))
            for row in found.rounds:
                self.assertEqual(row[0], min(row))
            self.assertIn(found.outer, [rim[0] for rim in rims(found)])
            same = Chart(found.places, found.arrows, found.rounds, found.outer, found.prices)
            self.assertEqual((same.rounds, same.outer), (found.rounds, found.outer))


class NoSketchTest(unittest.TestCase):
    def test_nothing_at_all(self):
        for text in ("", "\n", "\n\n", "\n\n\n", " ", "A", "A\n", "|\n", "+\n", "A\n\n", "A\n|\n", "|\nA\n", "A\nB\n"):
            self.assertIsNone(read(text))

    def test_parts_of_small_ones(self):
        wrong = [
            "B\n|\nA", "B\n|\nA\n\n", "\nB\n|\nA\n", "B \n|\nA\n", "B\n| \nA\n", " B\n |\n A\n", "BB\n|\nA\n",
            "B\n|\nAAAA\n", "B\nA\n", "B\n|\n|\nA\n", "B\n|\n|\n|\n|\nA\n", "C\n|\nA\n", "C\n|\nB\n", "a\n|\nA\n",
            "B\n|\nB\n", "A\n|\nA\n", "+\n|\nA\n", "B\n|\n+\n", "B\n|\n+\n|\nA\n", "B\n\nA\n", "B\n |\nA\n",
            "B\n||\nA\n", "B\n| |\nA\n", "B|\n|\nA\n", "B |\n|\nA\n", "|\nB\n|\nA\n", "B\n|\nA\n|\n", "b\n|\na\n",
            "B B\n| |\nAAA\n", "B\n|\nA\n|\nB\n", "B C\n|\nA\n", "BBB\n| |\nA C\n|\nD\n|\nD\n", "BCB\n|\nA\n",
            "B+B\n|\nA\n", "BBB C\n|\nA\n", "B\n|\nA D\n|\nC\n", "B\r\n|\nA\n", "o\n|\nA\n", "B\n|\nA\n|\n\n|\nC\n",
        ]
        for text in wrong:
            self.assertIsNone(read(text), text)
            self.assertIsNone(slow_read(text), text)

    def test_turnings_that_are_none(self):
        wrong = [
            RING.replace("B", "+").replace("A", "B"), "+++\n| |\n| B\n| |\nA +++\n", "+++\n| |\nA B\n",
            "+++++\n| | |\nA B C\n", "+++\n| |\n| |\n| |\n+++\n", RING + RING, "+++\n| |\nAAA\n",
            "B +++\n| | |\n| | |\n| | |\nA +++\n", "A B\n| |\n+++\n", "+++\n|\nA\n|\n+++\n",
            "+++ C\n| | |\n| B D\n| |\n| A\n| |\n+++\n", "+++\n| |\n+++\n|\nA\n",
        ]
        for text in wrong:
            self.assertIsNone(read(text), text)
            self.assertIsNone(slow_read(text), text)

    def test_all_texts_of_three_short_rows(self):
        rows = ["".join(row).rstrip(" ") for row in product(" AB+|", repeat=3)]
        found = []
        for top, bottom in product(sorted(set(rows)), repeat=2):
            for between in ("", "|", "| |", "  |", " |", "||"):
                text = "\n".join((top, between, bottom, ""))
                pair = read(text)
                self.assertEqual(pair, slow_read(text), text)
                if pair is not None:
                    found.append(text)
        self.assertIn("BBB\n|\nAAA\n", found)
        self.assertIn("AAA\n| |\nBBB\n", found)
        # A above B or B above A: four with a line on the left, three with one on the right, one with both.
        self.assertEqual(len(found), 2 * (4 + 3 + 1))

    def test_mutated_ones_against_the_slow_reading(self):
        rng = random.Random(22)
        texts = [sketch(chart, made) for chart, made in PLAIN + made_pictures()]
        texts = [text for text in texts if len(text) < 600]
        seen = []
        for _ in range(12000):
            text = rng.choice(texts)
            for _ in range(rng.choice((1, 1, 1, 2, 3))):
                text = mutated(rng, text) or text
            pair = read(text)
            seen.append(pair is not None)
            self.assertEqual(pair, slow_read(text), text)
        self.assertGreater(min(seen.count(True), seen.count(False)), 500)

    def test_each_sign_left_out_or_told_twice(self):
        for chart, made in PLAIN[::25]:
            text = sketch(chart, made)
            for at, sign in enumerate(text):
                for other in (text[:at] + text[at + 1:], text[:at] + sign + text[at:], text[:at] + " " + text[at + 1:]):
                    self.assertEqual(read(other), slow_read(other), other)

    def test_letters(self):
        text = "\n|\n".join(reversed(SIGNS)) + "\n"
        self.assertEqual(read_sketch(text)[0].arrows, chain((1,) * 39).arrows)
        self.assertIsNone(read("o\n|\n" + text))
        self.assertIsNone(read(text.replace("n", "o")))
        self.assertIsNone(read(text.replace("c", "C")))
        for sign in SIGNS[:-1]:
            self.assertIsNone(read("\n|\n".join(reversed(SIGNS.replace(sign, ""))) + "\n"))
            self.assertIsNone(read(text.replace(sign, "n")))

    def test_far_apart(self):
        self.assertEqual(read_sketch("B\n" + "|\n" * 799 + "A\n"), (a_path(), straight(0, 400)))
        self.assertIsNone(read("B\n" + "|\n" * 801 + "A\n"))
        self.assertIsNone(read("B\n" + "|\n" * 800 + "A\n"))
        self.assertEqual(read_sketch("B" * 801 + "\n|\nA\n"), (a_path(), straight(0, 1, 400)))
        self.assertIsNone(read("B" * 803 + "\n|\nA\n"))

    def test_80_and_81_arrows(self):
        for many in (80, 81):
            text = "B" * (2 * many - 1) + "\n" + " ".join("|" * many) + "\n" + "A" * (2 * many - 1) + "\n"
            pair = read(text)
            if many == 80:
                self.assertEqual(len(pair[0].arrows), 80)
                self.assertEqual(sketch(*pair), text)
            else:
                self.assertIsNone(pair)

    def test_100_and_101_turnings(self):
        self.assertEqual(read_sketch(slow_sketch(a_path(), zigzag(100))), (a_path(), zigzag(100)))
        self.assertIsNone(read(slow_sketch(a_path(), zigzag(101))))
        self.assertIsNone(read(slow_sketch(a_path(), zigzag(150))))

    def test_long_texts(self):
        for text in ("A" * 20000, "A" * 19999 + "\n", "|\n" * 10000, "+\n" * 10000, "\n" * 20000, "A\n|\n" * 5000,
                     "+ " * 9999 + "\n", "| " * 9999 + "\n", "+++\n| |\n" * 2500):
            self.assertIsNone(read(text))

    def test_no_string(self):
        for thing in odd_things() + [0, 1, 10 ** 19, (), ("B\n|\nA\n",), b"B\n|\nA\n", nested(39, "B\n|\nA\n")]:
            if isinstance(thing, str):
                self.assertIsNone(read(thing))
            else:
                with self.assertRaises(BadText) as caught:
                    read_sketch(thing)
                self.assertEqual(caught.exception.line, 0)
