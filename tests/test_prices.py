"""Prices, tables and dams: points 3.1 and 3.2 of the document, and the second fact."""

import random
import unittest

from bigcorners.charts import rim_of, rims, sides, tangled
from bigcorners.errors import NoTable
from bigcorners.judging import cost
from bigcorners.prices import dam, is_dam, is_table, outers, price, table, turnings, worth
from tests.drawings import drawings
from tests.growing import (
    all_outers, chain, changed, great_charts, grown_charts, known_shapes, loops_apart, nested_loops, ring_of,
    side_by_side, spiked_ring, star, with_price,
)
from tests.searching import all_lots, cheapest_ways, slow_is_dam, slow_is_table, slow_worth
from tests.things import a_path, a_ring, nested, odd_things


def whole(thing):
    """Whether a thing is an integer and no flag."""
    return type(thing) is int


class IsTableTest(unittest.TestCase):
    def test_by_the_words(self):
        rng = random.Random(1)
        seen = {True: 0, False: 0}
        for chart in grown_charts(2, 150, 9, (None, 1, 2, 5)):
            for _ in range(10):
                many = len(rims(chart)) + rng.choice((0, 0, 0, 0, 0, 0, -1, 1))
                thing = tuple(rng.randint(0, rng.choice((1, 2, 6))) for _ in range(many))
                seen[slow_is_table(chart, thing)] += 1
                self.assertIs(is_table(chart, thing), slow_is_table(chart, thing))
        self.assertGreater(min(seen.values()), 300)

    def test_each_price_bounds(self):
        for chart in known_shapes() + grown_charts(3, 100, 9, (None, 1, 4, 1000)):
            good = table(chart) or (0,) * len(rims(chart))
            self.assertIs(is_table(chart, good), True)
            for arrow, most in enumerate(chart.prices):
                left, right = sides(chart, arrow)
                for apart, told in ((most or 0, True), ((most or 0) + 1, most is None or left == right)):
                    if self.alone_between(chart, arrow):
                        thing = tuple(apart if rim == left else 0 for rim in range(len(rims(chart))))
                        self.assertIs(is_table(chart, thing), told)
                        self.assertIs(is_table(chart, tuple(-number for number in thing)), told)

    def alone_between(self, chart, arrow):
        """Whether no other arrow that can be bought lies at the left rim of an arrow."""
        left, _ = sides(chart, arrow)
        return all(
            left not in sides(chart, other) or chart.prices[other] is None
            for other in range(len(chart.arrows)) if other != arrow
        )

    def test_the_ring(self):
        for numbers, told in (((0, 0), True), ((0, 1), True), ((1, 0), True), ((0, 2), False), ((2, 0), False)):
            self.assertIs(is_table(a_ring(), numbers), told)
        self.assertIs(is_table(a_ring(0, (None, 3)), (10, 7)), True)
        self.assertIs(is_table(a_ring(0, (None, 3)), (10, 6)), False)
        self.assertIs(is_table(a_ring(0, (None, None)), (10 ** 20 - 1, 1 - 10 ** 20)), True)
        self.assertIs(is_table(a_ring(), (10 ** 20 - 2, 10 ** 20 - 1)), True)

    def test_wrong_lengths_and_kinds(self):
        chart = a_ring()
        for thing in ((), (0,), (0, 0, 0), [0, 0], {0: 0, 1: 0}, ((0, 0),), ((0, 0), (0, 0)), "00", b"00", range(2)):
            self.assertIs(is_table(chart, thing), False)
        for thing in odd_things() + [0, 5, (0, (0, 1)), nested(39)]:
            self.assertIs(is_table(chart, thing), False)
            self.assertIs(is_table(chart, (thing, 0)), whole(thing) and thing < 2)
            self.assertIs(is_table(chart, (0, thing)), whole(thing) and thing < 2)
        self.assertIs(is_table(a_path(), (0,)), True)
        self.assertIs(is_table(a_path(), (False,)), False)


class WorthTest(unittest.TestCase):
    def test_by_the_words(self):
        rng = random.Random(4)
        many = 0
        for chart in grown_charts(5, 200, 9, (None, 2, 9)):
            for _ in range(8):
                thing = tuple(rng.randint(-2, 4) for _ in rims(chart))
                if slow_is_table(chart, thing):
                    many += 1
                    self.assertEqual(worth(chart, thing), slow_worth(chart, thing))
                    self.assertTrue(whole(worth(chart, thing)))
                    more = tuple(number + 10 ** 19 for number in thing)
                    self.assertEqual(worth(chart, more), slow_worth(chart, thing))
                else:
                    with self.assertRaises(NoTable):
                        worth(chart, thing)
        self.assertGreater(many, 300)

    def test_the_ring(self):
        self.assertEqual([worth(a_ring(), (0, number)) for number in (-1, 0, 1)], [1, 0, -1])
        self.assertEqual(worth(a_ring(2, (None, None)), (7, 2)), 5)

    def test_no_table(self):
        for thing in odd_things() + [0, (), (0,), (0, 0, 0), (0, 2), (0, True), [0, 0], (0, [0]), nested(40)]:
            self.assertIs(is_table(a_ring(), thing), False)
            with self.assertRaises(NoTable):
                worth(a_ring(), thing)

    def test_none_is_worth_more_than_a_picture_costs(self):
        rng = random.Random(6)
        many = 0
        for chart, picture in drawings(7, 150) + drawings(8, 60, True):
            paid = cost(chart, picture)
            if paid is not None:
                best = table(chart)
                self.assertLessEqual(price(chart), paid)
                for _ in range(6):
                    thing = tuple(number + rng.choice((0, 0, 0, 1, -1)) for number in best)
                    if is_table(chart, thing):
                        many += 1
                        self.assertLessEqual(worth(chart, thing), price(chart))
        self.assertGreater(many, 300)


class IsDamTest(unittest.TestCase):
    def test_all_lots(self):
        seen = {True: 0, False: 0}
        for chart in grown_charts(9, 250, 7, (None, None, 1), (0, 0, 0.6)):
            for lot in all_lots(len(rims(chart))):
                seen[slow_is_dam(chart, lot)] += 1
                self.assertIs(is_dam(chart, lot), slow_is_dam(chart, lot))
        self.assertGreater(min(seen.values()), 100)

    def test_the_ring(self):
        chart = a_ring(0, (None, None))
        self.assertEqual([is_dam(chart, lot) for lot in ((), (0,), (1,), (0, 1))], [False, True, False, False])
        self.assertFalse(any(is_dam(a_ring(0, (None, 1)), lot) for lot in ((), (0,), (1,), (0, 1))))

    def test_wrong_lots(self):
        chart = nested_loops((None,) * 5)
        good = dam(chart)
        self.assertIs(is_dam(chart, good), True)
        self.assertTrue(set(range(6)) - set(good))
        for thing in (good + good, good[::-1] + good, good + (6,), (-1,) + good, list(good), (good,), good + (True,)):
            self.assertIs(is_dam(chart, thing), False)
        for lot in all_lots(6):
            if is_dam(chart, lot) and len(lot) > 1:
                self.assertIs(is_dam(chart, lot[::-1]), False)
                self.assertIs(is_dam(chart, lot + lot[-1:]), False)
        for thing in odd_things() + [nested(39, good), 0, 10 ** 19]:
            self.assertIs(is_dam(chart, thing), False)
            self.assertIs(is_dam(chart, (thing,)), thing == 0 and whole(thing) and slow_is_dam(chart, (0,)))
            if not whole(thing):
                self.assertIs(is_dam(chart, good + (thing,)), False)
                self.assertIs(is_dam(chart, (thing,) + good), False)
        other = a_ring(1, (None, None))
        self.assertEqual([is_dam(other, lot) for lot in ((0,), (1,), (-1,), (-2,), (2,))], [False, True] + [False] * 3)
        flags = a_ring(2, (None, None))
        self.assertEqual([is_dam(flags, lot) for lot in ((0,), (False,), (1,), (True,))], [True, False, False, False])


class PriceTest(unittest.TestCase):
    def test_against_the_slow_search(self):
        seen = {}
        for chart in grown_charts(10, 300, 5, (None, 1, 2, 3)):
            for outer in all_outers(chart):
                best, _ = cheapest_ways(outer, 2)
                seen[best] = seen.get(best, 0) + 1
                self.assertEqual(price(outer), best)
        self.assertGreater(min(seen[told] for told in (None, 0, 1, 2, 3)), 20)

    def test_trees_cost_nothing(self):
        trees = [star(1, 0), star(0, 39), star(5, 7), chain((1,)), chain((1, 0, 0, 1, 1, 1, 0)), chain((1, 0) * 19)]
        for tree in trees + [chart for chart in grown_charts(11, 60, 8) if len(rims(chart)) == 1]:
            self.assertEqual(price(tree), 0)
            self.assertTrue(whole(price(tree)))

    def test_rings_cost_their_least_price(self):
        for prices in ((4,), (1, 5), (5, 1), (None, 7), (3, 2, 9), (None, 1000, 6, None), (2,) * 40, (1000,) * 7):
            for chart in all_outers(ring_of(prices)):
                self.assertEqual(price(chart), min(cost for cost in prices if cost is not None))
        for many in (1, 2, 40):
            for chart in all_outers(ring_of((None,) * many)):
                self.assertIsNone(price(chart))

    def test_loops_cost_all(self):
        for prices in ((4,), (1, 5), (3, 2, 9), (1000,) * 80, tuple(range(1, 81))):
            for chart in all_outers(nested_loops(prices)):
                self.assertEqual(price(chart), sum(prices))
        for chart in all_outers(loops_apart(2, 5)):
            self.assertEqual(price(chart), 7)
        for prices in ((None,), (1, None), (None, 2, 3)):
            for chart in all_outers(nested_loops(prices)):
                self.assertIsNone(price(chart))

    def test_side_by_side_costs_nothing(self):
        for many in (1, 2, 5, 80):
            for chart in all_outers(side_by_side((None,) * many)):
                self.assertEqual(price(chart), 0)

    def test_needless_prices_tell_nothing(self):
        for chart in great_charts(12, 12):
            for arrow in range(0, len(chart.arrows), 7):
                left, right = sides(chart, arrow)
                if left == right:
                    self.assertEqual(price(with_price(chart, arrow, 1)), price(with_price(chart, arrow, None)))


class TablesAndDamsTest(unittest.TestCase):
    def check(self, chart):
        told = price(chart)
        if told is None:
            self.assertIsNone(table(chart))
            self.assertIsNone(turnings(chart))
            lot = dam(chart)
            self.assertIs(type(lot), tuple)
            self.assertIs(is_dam(chart, lot), True)
            self.assertTrue(slow_is_dam(chart, lot))
            return False
        best = table(chart)
        self.assertIs(type(best), tuple)
        self.assertTrue(all(whole(number) for number in best))
        self.assertIs(is_table(chart, best), True)
        self.assertEqual(worth(chart, best), told)
        self.assertIsNone(dam(chart))
        turned = turnings(chart)
        self.assertIs(type(turned), tuple)
        self.assertEqual(len(turned), len(chart.arrows))
        self.assertTrue(all(whole(many) and many >= 0 for many in turned))
        self.assertTrue(all(not many or cost is not None for many, cost in zip(turned, chart.prices)))
        self.assertEqual(sum(many * (cost or 0) for many, cost in zip(turned, chart.prices)), told)
        return True

    def test_known_shapes(self):
        for chart in known_shapes():
            for outer in all_outers(chart)[:12]:
                self.check(outer)

    def test_small_charts(self):
        seen = [self.check(chart) for chart in grown_charts(13, 400, 12, (None, None, 1, 6))]
        self.assertGreater(min(seen.count(True), seen.count(False)), 50)

    def test_great_charts(self):
        seen = [self.check(chart) for chart in great_charts(14, 15) + great_charts(15, 15, (None, 1, 2, 3, 4, 5))]
        self.assertGreater(min(seen.count(True), seen.count(False)), 3)

    def test_no_dam_at_all_where_there_is_a_price(self):
        for chart in grown_charts(16, 120, 6, (None, 1)):
            lots = [lot for lot in all_lots(len(rims(chart))) if is_dam(chart, lot)]
            self.assertEqual(bool(lots), price(chart) is None)
            if lots:
                self.assertIn(dam(chart), lots)

    def test_what_nothing_can_be_bought_of(self):
        for chart in great_charts(17, 10):
            self.check(changed(chart, None, (None,) * len(chart.arrows)))

    def test_turnings_are_those_of_a_cheapest_picture(self):
        for chart in grown_charts(18, 150, 5, (None, 1, 2)):
            _, found = cheapest_ways(chart, 2)
            if found:
                self.assertIn(turnings(chart), found)

    def test_one_arrow_may_turn_often(self):
        for many in (2, 3, 5, 10):
            chart = spiked_ring(random.Random(many), many, 7)
            self.check(chart)
            self.assertEqual(price(chart), 7 * (many - 1))
            self.assertEqual(sorted(turnings(chart))[-2:], [0, many - 1])


    def test_twice_the_same_and_nothing_changed(self):
        for chart in grown_charts(25, 40, 10, (None, 1, 2)) + great_charts(26, 3):
            same = changed(chart)
            for action in (price, table, dam, turnings, outers):
                self.assertEqual(action(chart), action(chart))
                self.assertEqual(action(same), action(chart))
            self.assertEqual(chart, same)


class OutersTest(unittest.TestCase):
    def check(self, chart):
        told = outers(chart)
        self.assertIs(type(told), tuple)
        self.assertEqual(told, tuple(price(outer) for outer in all_outers(chart)))
        self.assertEqual(told[rim_of(chart, chart.outer)], price(chart))
        for arrow, most in enumerate(chart.prices):
            if most is not None:
                left, right = [told[rim] for rim in sides(chart, arrow)]
                self.assertEqual(left is None, right is None)
                if left is not None:
                    self.assertLessEqual(abs(left - right), 2 * most)
        return told

    def test_small_charts(self):
        kinds = set()
        for chart in grown_charts(19, 200, 12, (None, 1, 2, 7)):
            told = self.check(chart)
            kinds.add((None in told, any(number is not None for number in told), len(set(told)) > 1))
        self.assertEqual(len(kinds), 4)

    def test_known_shapes(self):
        for chart in known_shapes():
            if len(rims(chart)) < 20:
                self.check(chart)

    def test_great_charts(self):
        for chart in great_charts(20, 5) + great_charts(21, 5, (None, 1, 2, 3, 4)):
            self.check(chart)

    def test_the_outer_rim_matters_not(self):
        for chart in grown_charts(22, 60, 8):
            self.assertEqual({outers(outer) for outer in all_outers(chart)}, {outers(chart)})

    def test_what_has_a_right_picture_is_not_tangled(self):
        self.assertTrue(all(tangled(chart) is None for chart in known_shapes()))
        self.assertTrue(all(tangled(chart) is None for chart, _ in drawings(23, 300) + drawings(24, 60, True)))
