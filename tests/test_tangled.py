"""Tangled is raised for a tangled chart by all that name it, ahead of any other error and of any answer."""

import unittest

from bigcorners.charts import Chart, rims, tangled
from bigcorners.dealings import count_dealings, dealing, is_dealing
from bigcorners.errors import Tangled
from bigcorners.pictures import drawn, picture
from bigcorners.prices import dam, fates, is_dam, is_table, outers, price, table, turnings, worth
from tests.things import odd_things, random_charts

ALONE = (picture, price, table, dam, turnings, fates, outers, count_dealings)
WITH_THING = (is_table, is_dam, worth, is_dealing, dealing, drawn)
KNOT = Chart(4, ((0, 1), (1, 2), (0, 1), (1, 3)), ((0, 4), (1, 2, 5, 6), (3,), (7,)), 0, (1, 1, 1, 1))


def least_tangled(chart):
    """The least place at which what goes out does not lie together, by the number of straight angles."""
    for place, row in enumerate(chart.rounds):
        if sum(row[at] % 2 != row[at - 1] % 2 for at in range(len(row))) > 2:
            return place
    return None


class TangledTest(unittest.TestCase):
    def check(self, chart, things):
        for action in ALONE:
            with self.assertRaises(Tangled) as caught:
                action(chart)
            self.assertEqual(caught.exception.place, least_tangled(chart))
            self.assertIs(type(caught.exception.place), int)
        for action in WITH_THING:
            for thing in things:
                with self.assertRaises(Tangled) as caught:
                    action(chart, thing)
                self.assertEqual(caught.exception.place, least_tangled(chart))

    def test_the_chart_of_the_document(self):
        many = len(rims(KNOT))
        self.check(KNOT, odd_things() + [0, -1, 5, (), (0,) * many, tuple(range(many)), (1,), (0, 3), (0, 3, 7)])

    def test_random_charts(self):
        found = [chart for chart in random_charts(31, 600, 30) if least_tangled(chart) is not None]
        self.assertGreater(len(found), 50)
        self.assertGreater(len({tangled(chart) for chart in found}), 3)
        for chart in found:
            self.check(chart, ((), (0,) * len(rims(chart)), 0, None))

    def test_great_tangled_charts(self):
        ends = tuple(range(160))
        for outer in (0, 1, 158):
            chart = Chart(1, ((0, 0),) * 80, (ends,), outer, (None,) * 80)
            self.check(chart, (0, (), (0,) * 81))

    def test_not_for_others(self):
        for chart in random_charts(32, 200, 10):
            if least_tangled(chart) is None:
                for action in ALONE:
                    action(chart)
