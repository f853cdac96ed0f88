"""The examples of the document, each as it is written there."""

import unittest

from bigcorners.books import deed, flow
from bigcorners.charts import Chart, asks, rims, sides, tangled, tips
from bigcorners.dealings import dealing
from bigcorners.judging import is_picture
from bigcorners.prices import fates, outers, price
from bigcorners.runners import ran
from bigcorners.sketches import read_sketch, sketch
from bigcorners.sources import translated

RING = Chart(2, ((0, 1), (1, 0)), ((0, 3), (1, 2)), 0, (1, 5))
PATH = Chart(2, ((0, 1),), ((0,), (1,)), 0, (1,))
BOOK = translated("cells 1\nroutine\nwhile 0 < c0\nsay c0\nset 0 c0-1\nend\n")


class ExamplesTest(unittest.TestCase):
    def test_e01(self):
        self.assertEqual(rims(RING), [(0, 2), (1, 3)])
        self.assertEqual(asks(RING), (1, -1))
        self.assertEqual(tips(RING), ())
        self.assertEqual(sides(RING, 0), (1, 0))

    def test_e02(self):
        self.assertEqual(price(RING), 1)
        self.assertEqual(fates(RING), ("always", "never"))
        self.assertEqual(outers(RING), (1, 1))

    def test_e03(self):
        self.assertEqual(asks(PATH), (2,))
        self.assertEqual(dealing(PATH, 0), (0, 1))
        self.assertIs(is_picture(PATH, (((0, 0, 0), (1, 0, 0)), (((0,), ()),))), True)

    def test_e04(self):
        self.assertEqual(sketch(PATH, (((0, 0, 0), (1, 0, 1)), (((0,), ()),))), "BBB\n|\nA\n")

    def test_e05(self):
        self.assertEqual(read_sketch("B\n|\nA\n"), (PATH, (((0, 0, 0), (1, 0, 0)), (((0,), ()),))))

    def test_e06(self):
        self.assertEqual(flow(BOOK, 0).arrows, ((0, 1), (1, 2), (1, 4), (2, 3), (3, 1)))
        self.assertEqual(price(flow(BOOK, 0)), 1)
        self.assertEqual(deed(BOOK, 0, 1), ("less", (0, 0), (1, 0)))

    def test_e07(self):
        self.assertEqual(ran(BOOK, (2,), 99), ((2, 1), "over", (0,)))

    def test_e08(self):
        arrows = ((0, 1), (1, 2), (0, 1), (1, 3))
        self.assertEqual(tangled(Chart(4, arrows, ((0, 4), (1, 2, 5, 6), (3,), (7,)), 0, (1, 1, 1, 1))), 1)
