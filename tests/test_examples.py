"""The examples of the document that speak of what the package has so far."""

import unittest

from bigcorners.charts import Chart, asks, rims, sides, tangled, tips
from bigcorners.dealings import dealing
from bigcorners.judging import is_picture
from bigcorners.prices import fates, outers, price

RING = Chart(2, ((0, 1), (1, 0)), ((0, 3), (1, 2)), 0, (1, 5))


class ExamplesTest(unittest.TestCase):
    def test_e01(self):
        self.assertEqual(rims(RING), [(0, 2), (1, 3)])
        self.assertEqual(asks(RING), (1, -1))
        self.assertEqual(tips(RING), ())
        self.assertEqual(sides(RING, 0), (1, 0))

    def test_e02(self):
        self.assertEqual(price(RING), 1)
        self.assertEqual(fates(RING), ("always", "never"))
        self.assertEqual(outers(RING), (1, 1))

    def test_e03(self):
        path = Chart(2, ((0, 1),), ((0,), (1,)), 0, (1,))
        self.assertEqual(asks(path), (2,))
        self.assertEqual(dealing(path, 0), (0, 1))
        self.assertIs(is_picture(path, (((0, 0, 0), (1, 0, 0)), (((0,), ()),))), True)

    def test_e08(self):
        arrows = ((0, 1), (1, 2), (0, 1), (1, 3))
        self.assertEqual(tangled(Chart(4, arrows, ((0, 4), (1, 2, 5, 6), (3,), (7,)), 0, (1, 1, 1, 1))), 1)
