"""bigcorners.texts: charts as texts, and texts as charts [9.1]."""

import random
import unittest

from bigcorners.charts import Chart, rims
from bigcorners.errors import BadChart, BadText
from bigcorners.texts import chart_text, read_chart
from tests.growing import great_charts, grown_charts, known_shapes
from tests.things import a_path, a_ring, nested, odd_things, random_charts, spread_round

RING = "places 2\narrow 0 1 1\narrow 1 0 5\nround 0 3\nround 1 2\nouter 0\n"
CHARTS = random_charts(81, 120) + grown_charts(82, 40) + known_shapes() + [a_path(), a_ring(), a_ring(1, (None, 1000))]


def slow_text(chart):
    """The text of a chart, line by line."""
    text = "places " + str(chart.places) + "\n"
    for arrow in range(len(chart.arrows)):
        price = chart.prices[arrow]
        words = ["arrow", str(chart.arrows[arrow][0]), str(chart.arrows[arrow][1])]
        words.append("never" if price is None else str(price))
        text += " ".join(words) + "\n"
    for row in chart.rounds:
        text += "round"
        for end in row:
            text += " " + str(end)
        text += "\n"
    return text + "outer " + str(chart.outer) + "\n"


def line_of(text):
    """The line with which BadText is raised, or None if a chart is read; BadChart goes on."""
    try:
        read_chart(text)
    except BadText as error:
        return error.line
    return None


def part_of(text):
    """The part with which BadChart is raised."""
    try:
        read_chart(text)
    except BadChart as error:
        return error.part
    return None


class TextTest(unittest.TestCase):
    def test_line_by_line(self):
        self.assertEqual(chart_text(a_ring()), RING)
        self.assertEqual(chart_text(a_path(None)), "places 2\narrow 0 1 never\nround 0\nround 1\nouter 0\n")
        for chart in CHARTS + great_charts(83, 8):
            self.assertEqual(chart_text(chart), slow_text(chart))
            self.assertEqual(chart_text(chart), chart_text(chart))

    def test_read_again(self):
        for chart in CHARTS + great_charts(84, 8):
            self.assertIs(type(read_chart(chart_text(chart))), Chart)
            self.assertEqual(read_chart(chart_text(chart)), chart)
            self.assertEqual(read_chart(chart_text(chart)), read_chart(chart_text(chart)))

    def test_unlike_charts_have_unlike_texts(self):
        found = {}
        for chart in CHARTS:
            for rim in rims(chart)[:3]:
                for price in (None, 3):
                    prices = (price,) + chart.prices[1:]
                    other = Chart(chart.places, chart.arrows, chart.rounds, rim[0], prices)
                    found.setdefault(chart_text(other), []).append(other)
        for group in found.values():
            self.assertTrue(all(other == group[0] for other in group))
        charts = [group[0] for group in found.values()]
        for at, one in enumerate(charts[:60]):
            self.assertFalse(any(one == other for other in charts[:at]))

    def test_rounds_begun_anywhere_and_any_angle_of_the_outer_rim(self):
        rng = random.Random(85)
        for chart in CHARTS[:80]:
            lines = chart_text(chart).split("\n")
            rounds = spread_round([list(row) for row in chart.rounds], chart.places, rng)
            for angle in [rim for rim in rims(chart) if chart.outer in rim][0]:
                first = 1 + len(chart.arrows)
                told = lines[:first] + [" ".join(["round"] + [str(end) for end in row]) for row in rounds]
                self.assertEqual(read_chart("\n".join(told + ["outer " + str(angle), ""])), chart)

    def test_nothing_is_changed(self):
        for chart in CHARTS[:20]:
            before = repr(vars(chart))
            chart_text(chart)
            self.assertEqual(repr(vars(chart)), before)


class BadTextTest(unittest.TestCase):
    def test_no_string(self):
        things = odd_things() + [0, 1, 10 ** 19, (), (RING,), [RING], RING.encode(), nested(39, RING)]
        for thing in things:
            if not isinstance(thing, str):
                self.assertEqual(line_of(thing), 0)

    def test_strings_that_are_no_charts(self):
        for text, line in (
            ("", 1), ("\n", 1), (" ", 1), ("places", 1), ("places 2", 1), ("places 2\n", 2), ("places 2\n\n", 2),
            ("0", 1), ("x" * 20000, 1), ("\n" * 20000, 1), ("places 2\n" * 1000, 2), (RING + RING, 7),
            ("places 2\narrow 0 1 1\n", 3), ("places 2\nround 0\n", 3), ("arrow 0 1 1\n", 1), ("outer 0\n", 1),
        ):
            self.assertEqual(line_of(text), line, text)

    def test_each_line_with_a_wrong_form(self):
        wrong = {
            "places": ["places", "places ", "places 2 2", "places  2", " places 2", "places 2 ", "place 2", "Places 2",
                       "places 02", "places +2", "places -2", "places two", "places 1234567890", "places 2.0",
                       "places never", "places 1_0", "places\t2", "places2", "", " ", "2", "places -0", "places 00",
                       "places ;2"],
            "arrow": ["arrow", "arrow 0", "arrow 0 1", "arrow 0 1 1 1", "arrow  0 1 1", "arrow 0  1 1", " arrow 0 1 1",
                      "arrow 0 1 1 ", "arrow 00 1 1", "arrow 0 01 1", "arrow 0 1 01", "arrow +0 1 1", "arrow 0 -1 1",
                      "arrow 0 1 -1", "arrow never 1 1", "arrow 0 never 1", "arrow 0 1 Never", "arrow 0 1 none",
                      "arrows 0 1 1", "arrow 0 1 1234567890", "arrow 1234567890 1 1", "arrow 0 1234567890 1",
                      "ARROW 0 1 1", "arrow 0 1 1.5", "arrow 0 1 nevernever", "arrow 0 1 +1", "arrow 0 1 0x1",
                      "arrow 0 1 "],
            "round": ["round ", "round  0 3", "round 0  3", " round 0 3", "round 0 3 ", "round 00 3", "round 0 03",
                      "round -0 3", "round 0 +3", "round 0 never", "rounds 0 3", "round 0,3", "round 1234567890",
                      "Round 0 3", "round a", "round0 3", "round 0 3 1234567890"],
            "outer": ["outer", "outer ", "outer 0 0", "outer  0", " outer 0", "outer 0 ", "outer 00", "outer +0",
                      "outer -0", "outer never", "outer 1234567890", "Outer 0", "outer x", "outer:0", "outer 0x0"],
        }
        lines = RING.split("\n")[:-1]
        for at, line in enumerate(lines):
            for other in wrong[line.split(" ")[0]]:
                text = "".join(row + "\n" for row in lines[:at] + [other] + lines[at + 1:])
                self.assertEqual(line_of(text), at + 1, other)

    def test_lines_put_in_left_out_told_twice_and_exchanged(self):
        lines = RING.split("\n")[:-1]
        orders = {"places": 0, "arrow": 1, "round": 2, "outer": 3}

        def expected(rows):
            # The first line that can't stand behind the one before it, or the end.
            last = -1
            for at, row in enumerate(rows):
                now = orders[row.split(" ")[0]]
                if now < last or last == 3 or (now == last == 0) or (last == -1 and now):
                    return at + 1
                last = now
            return None if last == 3 else len(rows) + 1

        rng = random.Random(86)
        for _ in range(3000):
            rows = list(lines)
            for _ in range(rng.choice((1, 1, 2, 3))):
                at, other = rng.randrange(len(rows)), rng.randrange(len(rows))
                kind = rng.randrange(3)
                if kind == 0 and len(rows) > 1:
                    del rows[at]
                elif kind == 1:
                    rows.insert(at, rows[other])
                else:
                    rows[at], rows[other] = rows[other], rows[at]
            text = "".join(row + "\n" for row in rows)
            try:
                self.assertEqual(line_of(text), expected(rows), text)
            except BadChart:
                self.assertIsNone(expected(rows), text)

    def test_behind_the_last_line_feed(self):
        for more in ("x", " ", "outer 0", "places 2", "0", ";"):
            self.assertEqual(line_of(RING + more), 7)
            self.assertEqual(line_of(RING[:-1] + more), 6)
        self.assertEqual(line_of(RING[:-1]), 6)
        for more in ("\n", "x\n", " \n", "outer 0\n", "round\n", "\n\n\n"):
            self.assertEqual(line_of(RING + more), 7)
        self.assertEqual(line_of("places 2\narrow 0 1 1\nround 0"), 3)

    def test_the_first_line_is_told(self):
        self.assertEqual(line_of("places 2\narrow 0 1\nround x\nouter 0"), 2)
        self.assertEqual(line_of("places 2\nouter 0\nround x\nfoo"), 3)
        self.assertEqual(line_of("places 02\n" + "x"), 1)

    def test_bad_text_ahead_of_bad_chart(self):
        self.assertEqual(line_of("places 99\narrow 7 7 0\nround\nouter 9"), 4)
        self.assertEqual(line_of("places 0\n"), 2)


class BadChartTest(unittest.TestCase):
    def test_part_that_a_chart_tells(self):
        rows = (
            (RING.replace("places 2", "places 0"), ("places",)), (RING.replace("places 2", "places 41"), ("places",)),
            (RING.replace("places 2", "places 999999999"), ("places",)),
            (RING.replace("places 2", "places 1"), ("arrow", 0)), (RING.replace("places 2", "places 3"), ("rounds",)),
            ("places 1\nround\nouter 0\n", ("arrows",)), ("places 1\nouter 0\n", ("arrows",)),
            (RING.replace("1 0 5", "1 2 5"), ("arrow", 1)), (RING.replace("round 1 2\n", ""), ("rounds",)),
            (RING.replace("round 1 2\n", "round 1 2\nround\n"), ("rounds",)),
            (RING.replace("round 1 2", "round"), ("round", 1)), (RING.replace("round 0 3", "round"), ("round", 0)),
            (RING.replace("round 0 3", "round 0"), ("round", 0)),
            (RING.replace("round 1 2", "round 1 2 4"), ("round", 1)),
            (RING.replace("round 1 2", "round 1 1"), ("round", 1)), (RING.replace("outer 0", "outer 4"), ("outer",)),
            (RING.replace("outer 0", "outer 999999999"), ("outer",)), (RING.replace("0 1 1", "0 1 0"), ("prices",)),
            (RING.replace("0 1 1", "0 1 1001"), ("prices",)),
            ("places 2\narrow 0 0 1\nround 0 1\nround\nouter 0\n", ("apart",)),
            ("places 1\narrow 0 0 1\narrow 0 0 1\nround 0 2 1 3\nouter 0\n", ("flat",)),
            ("places 2\n" + "arrow 0 1 1\n" * 81 + "outer 0\n", ("arrows",)),
        )
        for text, part in rows:
            self.assertEqual(part_of(text), part, text)

    def test_any_texts_of_the_right_form(self):
        rng = random.Random(87)
        seen = {}
        for chart in CHARTS[:100]:
            words = chart_text(chart).split(" ")
            for _ in range(6):
                at = rng.randrange(1, len(words))
                number, feed, rest = words[at].partition("\n")
                changed = words[:at] + [str(rng.randrange(12)) + feed + rest] + words[at + 1:]
                text = " ".join(changed)
                lines = [line.split(" ") for line in text.split("\n")[:-1]]
                arrows = tuple((int(line[1]), int(line[2])) for line in lines if line[0] == "arrow")
                prices = tuple(None if line[3] == "never" else int(line[3]) for line in lines if line[0] == "arrow")
                rounds = tuple(tuple(int(word) for word in line[1:]) for line in lines if line[0] == "round")
                try:
                    expected = Chart(int(lines[0][1]), arrows, rounds, int(lines[-1][1]), prices)
                    self.assertEqual(read_chart(text), expected)
                    seen[None] = seen.get(None, 0) + 1
                except BadChart as error:
                    self.assertEqual(part_of(text), error.part)
                    seen[error.part[0]] = seen.get(error.part[0], 0) + 1
        self.assertGreater(len(seen), 4)
