"""Fates: point 3.2 of the document, and the third fact."""

import random
import unittest
from itertools import product

from bigcorners.charts import rims, sides
from bigcorners.prices import fates, price, turnings
from tests.growing import (
    all_outers, changed, great_charts, grown_charts, known_shapes, loops_apart, nested_loops, ring_of, side_by_side,
    spiked_ring, star, with_price,
)
from tests.searching import slow_fates, slow_is_table, slow_worth
from tests.things import a_ring


def best_tables(chart, most):
    """All tables that are worth the price, the first number 0, the others from -most to most."""
    rest = product(range(-most, most + 1), repeat=len(rims(chart)) - 1)
    every = [(0,) + row for row in rest]
    return [row for row in every if slow_is_table(chart, row) and slow_worth(chart, row) == price(chart)]


class FatesTest(unittest.TestCase):
    def check_kinds(self, chart):
        told = fates(chart)
        if price(chart) is None:
            self.assertIsNone(told)
            return
        self.assertIs(type(told), tuple)
        self.assertEqual(len(told), len(chart.arrows))
        for arrow, word in enumerate(told):
            self.assertIn(word, ("never", "some", "always"))
            if chart.prices[arrow] is None or len(set(sides(chart, arrow))) == 1:
                self.assertEqual(word, "never")
            if turnings(chart)[arrow]:
                self.assertNotEqual(word, "never")
            else:
                self.assertNotEqual(word, "always")

    def check_by_prices(self, chart):
        """With prices hundreds apart, a price one more costs more exactly if the arrow turns in all cheapest pictures,
        and one less costs less exactly if it turns in one: no arrow turns a hundred times."""
        steep = changed(chart, None, tuple(cost and 100 * cost for cost in chart.prices))
        told, paid = fates(steep), price(steep)
        self.assertEqual(told, fates(chart))
        for arrow, cost in enumerate(steep.prices):
            if cost is not None:
                self.assertEqual(price(with_price(steep, arrow, cost + 1)) > paid, told[arrow] == "always")
                self.assertEqual(price(with_price(steep, arrow, cost - 1)) < paid, told[arrow] != "never")
                without = price(with_price(steep, arrow, None))
                self.assertEqual(without is None or without > paid, told[arrow] == "always")

    def test_against_the_slow_search(self):
        seen = {"never": 0, "some": 0, "always": 0, None: 0}
        for chart in grown_charts(41, 250, 5, (None, 1, 1, 2)):
            for outer in all_outers(chart):
                told = fates(outer)
                if price(outer) is None:
                    self.assertIsNone(told)
                    seen[None] += 1
                else:
                    self.assertEqual(told, slow_fates(outer, 2))
                    for word in told:
                        seen[word] += 1
        self.assertGreater(min(seen.values()), 30)

    def test_against_the_prices_of_other_charts(self):
        words = []
        for chart in grown_charts(42, 120, 16, (None, 1, 1, 1, 1), (0,)) + grown_charts(46, 60, 12, (1, 2, 3)):
            if price(chart) is not None:
                self.check_by_prices(chart)
                words += fates(chart)
        self.assertGreater(min(words.count(word) for word in ("never", "some", "always")), 50)

    def test_great_charts(self):
        for chart in great_charts(43, 4, (1, 1, 2, 3)) + [spiked_ring(random.Random(1), 10, 4)]:
            self.check_by_prices(chart)
            self.check_kinds(chart)
        for chart in great_charts(44, 10, (None, 1, 2)) + known_shapes():
            self.check_kinds(chart)

    def test_against_all_best_tables(self):
        many = 0
        for chart in grown_charts(45, 150, 6, (1, 2)):
            if len(rims(chart)) <= 4:
                tables = best_tables(chart, 4)
                told = fates(chart)
                for arrow, cost in enumerate(chart.prices):
                    left, right = sides(chart, arrow)
                    apart = all(abs(row[left] - row[right]) == cost for row in tables)
                    self.assertEqual(apart, told[arrow] != "never")
                    many += told[arrow] == "some"
        self.assertGreater(many, 5)

    def test_rings(self):
        for prices, told in (
            ((1, 5), ("always", "never")), ((2, 2), ("some", "some")), ((None, 7), ("never", "always")),
            ((3, 4, 3), ("some", "never", "some")), ((9,), ("always",)), ((None, None), None), ((None,), None),
        ):
            for chart in all_outers(ring_of(prices)):
                self.assertEqual(fates(chart), told)

    def test_loops_and_what_turns_never(self):
        self.assertEqual(fates(nested_loops((1, 2, 3))), ("always",) * 3)
        self.assertEqual(fates(nested_loops((5,) * 80)), ("always",) * 80)
        self.assertEqual(fates(loops_apart(1, 1)), ("always",) * 2)
        self.assertIsNone(fates(nested_loops((1, None))))
        self.assertEqual(fates(side_by_side((1, 2, None))), ("never",) * 3)
        self.assertEqual(fates(changed(star(3, 4), None, (1,) * 7)), ("never",) * 7)

    def test_an_arrow_that_turns_often_may_turn_less_or_not_at_all(self):
        rng = random.Random(2)
        chart = spiked_ring(rng, 5, 3)
        self.assertEqual(sorted(fates(chart)), ["always"] + ["never"] * 19)
        flat = changed(chart, None, (3,) * 20)
        self.assertEqual(price(flat), 12)
        self.assertEqual(sorted(fates(flat)), ["never"] * 10 + ["some"] * 10)

    def test_twice_the_same_and_nothing_changed(self):
        chart = a_ring()
        self.assertEqual(fates(chart), ("always", "never"))
        self.assertEqual(fates(chart), ("always", "never"))
        self.assertEqual(chart, a_ring())
