"""bigcorners.charts: rims, sides, words, asks, tips, tangled [1.2, 1.3], and the first fact."""

import unittest

from bigcorners.charts import Chart, asks, rim_of, rims, sides, tangled, tips, word_at
from bigcorners.errors import ChartError, NoArrow, NoEnd
from tests.things import a_path, a_ring, odd_things, random_charts, raw_rims

CHARTS = random_charts(11, 250) + random_charts(12, 15, 60)
KNOT = Chart(4, ((0, 1), (1, 2), (0, 1), (1, 3)), ((0, 4), (1, 2, 5, 6), (3,), (7,)), 0, (1, 1, 1, 1))


def next_end(chart, end):
    """The end behind an end in the round of its place."""
    row = [row for row in chart.rounds if end in row][0]
    return row[(row.index(end) + 1) % len(row)]


class RimsTest(unittest.TestCase):
    def test_examples(self):
        self.assertEqual(rims(a_ring()), [(0, 2), (1, 3)])
        self.assertEqual(rims(a_path()), [(0, 1)])
        self.assertEqual(rims(KNOT), [(0, 6, 7, 5), (1, 4, 2, 3)])

    def test_order_is_that_of_the_walk(self):
        loops = Chart(1, ((0, 0),) * 3, ((0, 1, 2, 3, 4, 5),), 0, (1,) * 3)
        self.assertEqual(rims(loops), [(0,), (1, 5, 3), (2,), (4,)])

    def test_walk(self):
        for chart in CHARTS:
            found = rims(chart)
            self.assertIs(type(found), list)
            self.assertEqual(found, sorted(tuple(rim) for rim in raw_rims(chart.rounds)))
            for rim in found:
                self.assertEqual(rim[0], min(rim))
                for angle, behind in zip(rim, rim[1:] + rim[:1]):
                    other = angle + 1 if angle % 2 == 0 else angle - 1
                    self.assertEqual(next_end(chart, behind), other)

    def test_each_angle_once(self):
        for chart in CHARTS:
            angles = sorted(angle for rim in rims(chart) for angle in rim)
            self.assertEqual(angles, list(range(2 * len(chart.arrows))))

    def test_two_more_than_arrows(self):
        for chart in CHARTS:
            self.assertEqual(chart.places + len(rims(chart)), len(chart.arrows) + 2)

    def test_each_list_is_new(self):
        chart = a_ring()
        found = rims(chart)
        found.clear()
        self.assertEqual(rims(chart), [(0, 2), (1, 3)])
        self.assertIsNot(rims(chart), rims(chart))

    def test_rim_of(self):
        for chart in CHARTS:
            found = rims(chart)
            for angle in range(2 * len(chart.arrows)):
                self.assertIn(angle, found[rim_of(chart, angle)])

    def test_sides(self):
        self.assertEqual(sides(a_ring(), 0), (1, 0))
        self.assertEqual(sides(a_ring(), 1), (1, 0))
        self.assertEqual(sides(a_path(), 0), (0, 0))
        loops = Chart(1, ((0, 0),) * 3, ((0, 1, 2, 3, 4, 5),), 0, (1,) * 3)
        self.assertEqual([sides(loops, arrow) for arrow in range(3)], [(1, 0), (1, 2), (1, 3)])
        for chart in CHARTS:
            for arrow in range(len(chart.arrows)):
                self.assertEqual(sides(chart, arrow), (rim_of(chart, 2 * arrow + 1), rim_of(chart, 2 * arrow)))


class WordsTest(unittest.TestCase):
    def test_word_at(self):
        self.assertEqual([word_at(a_ring(), angle) for angle in range(4)], ["straight"] * 4)
        self.assertEqual([word_at(a_path(), angle) for angle in range(2)], ["fork", "meet"])
        told = [word_at(KNOT, angle) for angle in range(8)]
        self.assertEqual(told, ["fork", "straight", "straight", "meet", "fork", "straight", "straight", "meet"])

    def test_word_by_the_ends_at_its_sides(self):
        for chart in CHARTS:
            for angle in range(2 * len(chart.arrows)):
                sort = (angle % 2, next_end(chart, angle) % 2)
                word = {(0, 0): "fork", (1, 1): "meet"}.get(sort, "straight")
                self.assertEqual(word_at(chart, angle), word)

    def test_asks(self):
        self.assertEqual(asks(a_ring()), (1, -1))
        self.assertEqual(asks(a_ring(1)), (-1, 1))
        self.assertEqual(asks(a_path()), (2,))
        self.assertEqual(asks(KNOT), (2, 0))

    def test_asks_by_forks(self):
        for chart in CHARTS:
            more = [
                sum(word_at(chart, angle) == "fork" for angle in rim) + (1 if chart.outer in rim else -1)
                for rim in rims(chart)
            ]
            self.assertEqual(asks(chart), tuple(more))

    def test_tips(self):
        self.assertEqual(tips(a_ring()), ())
        self.assertEqual(tips(a_path()), (0, 1))
        self.assertEqual(tips(KNOT), (0, 2, 3))
        for chart in CHARTS:
            alike = [place for place, row in enumerate(chart.rounds) if len({end % 2 for end in row}) == 1]
            self.assertEqual(tips(chart), tuple(alike))

    def test_tangled(self):
        self.assertEqual(tangled(KNOT), 1)
        self.assertIsNone(tangled(a_ring()))
        self.assertIsNone(tangled(a_path()))
        seen = set()
        for chart in CHARTS:
            straight = [sum(word_at(chart, angle) == "straight" for angle in row) for row in chart.rounds]
            many = [place for place, number in enumerate(straight) if number > 2]
            self.assertEqual(tangled(chart), many[0] if many else None)
            seen.add(len(many) > 1)
        self.assertEqual(seen, {True, False})

    def test_first_fact(self):
        whole = 0
        for chart in CHARTS:
            for rim in rims(chart):
                told = [word_at(chart, angle) for angle in rim]
                self.assertEqual(told.count("fork"), told.count("meet"))
            if tangled(chart) is None:
                whole += 1
                self.assertEqual(sum(asks(chart)), len(tips(chart)))
        self.assertGreater(whole, 50)


class WrongTest(unittest.TestCase):
    def test_no_end(self):
        for chart in (a_path(), a_ring(), KNOT):
            many = 2 * len(chart.arrows)
            for thing in [-1, -many, many, many + 1, 10 ** 19, -10 ** 19, (), (0,)] + odd_things():
                for function in (rim_of, word_at):
                    with self.assertRaises(NoEnd):
                        function(chart, thing)

    def test_no_arrow(self):
        for chart in (a_path(), a_ring(), KNOT):
            many = len(chart.arrows)
            for thing in [-1, -many, many, many + 1, 10 ** 19, -10 ** 19, (), (0, 1)] + odd_things():
                with self.assertRaises(NoArrow):
                    sides(chart, thing)

    def test_for_nothing_else(self):
        for chart in CHARTS[:60]:
            try:
                for angle in range(2 * len(chart.arrows)):
                    rim_of(chart, angle)
                    word_at(chart, angle)
                for arrow in range(len(chart.arrows)):
                    sides(chart, arrow)
            except ChartError as error:
                self.fail(repr(error))

    def test_equal_calls_give_equal_answers_and_change_nothing(self):
        for chart in CHARTS[:60]:
            before = repr(vars(chart))
            for function in (rims, asks, tips, tangled):
                self.assertEqual(function(chart), function(chart))
            self.assertEqual(repr(vars(chart)), before)
