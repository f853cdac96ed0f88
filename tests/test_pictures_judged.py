"""bigcorners.judging: is_picture, cost and big [2.1], on pictures made by hand."""

import unittest

from bigcorners.charts import Chart, tips
from bigcorners.errors import NoPicture
from bigcorners.judging import big, cost, is_picture
from tests.drawings import moved, numbers_of
from tests.things import a_path, a_ring, kept, nested, odd_things

# Two arrows from place 0 to place 1, and three leaves hanging at one place.
TWINS = Chart(2, ((0, 1), (0, 1)), ((0, 2), (1, 3)), 1, (3, None))
STAR = Chart(4, ((0, 1), (0, 2), (0, 3)), ((0, 2, 4), (1,), (3,), (5,)), 0, (1, 2, 3))
CHAIN = Chart(3, ((0, 1), (1, 2)), ((0,), (1, 2), (3,)), 0, (1, 2))
STRAIGHT = (((0, 0, 0), (1, 0, 0)), (((0,), ()),))
LEFT = (((0, 0, 0), (1, 0, 0)), (((0,), ()), ((0, -1, 0), ((2, -1, 0), (-1, -1, 0)))))
RIGHT = (((0, 0, 0), (1, 0, 0)), (((0,), ()), ((0, 1, 0), ((2, 0, 1), (-1, 0, 1)))))
WIDE = (((0, 0, 2), (1, 0, 0), (1, 1, 1), (1, 2, 2)), (((0,), ()), ((1,), ()), ((2,), ())))


def zigzag(many):
    """A picture of the path whose arrow has so many turnings."""
    tops = [(10, 2 * k, 2 * k + 1) for k in range(many)]
    bottoms = [(5, 2 * k + 1, 2 * k + 2) for k in range(many)]
    turns = tuple(bar for pair in zip(tops, bottoms) for bar in pair)
    return ((0, 0, 0), (15, 2 * many, 2 * many)), ((tuple(range(2 * many + 1)), turns),)


def nodes(thing, way=()):
    """All items within a nest of tuples, by the indexes that lead to them; the nest itself first."""
    found = [(way, thing)]
    if isinstance(thing, tuple):
        for at, item in enumerate(thing):
            found += nodes(item, way + (at,))
    return found


def with_node(thing, way, new):
    """The same nest of tuples with another item."""
    if not way:
        return new
    return thing[:way[0]] + (with_node(thing[way[0]], way[1:], new),) + thing[way[0] + 1:]


class RightTest(unittest.TestCase):
    def right(self, chart, picture):
        self.assertEqual(kept(chart, picture), (True,) * 4)
        self.assertIs(is_picture(chart, picture), True)

    def test_path(self):
        self.right(a_path(), STRAIGHT)
        self.right(a_path(), (((0, -5, 3), (7, 3, 9)), (((3,), ()),)))

    def test_ring(self):
        self.right(a_ring(0), LEFT)
        self.right(a_ring(1), RIGHT)

    def test_either_arrow_of_the_ring_may_turn(self):
        picture = (((1, 0, 0), (0, 0, 0)), (((0, 1, 0), ((2, 0, 1), (-1, 0, 1))), ((0,), ())))
        self.right(a_ring(1), picture)
        self.right(a_ring(0), moved(picture, lambda height, column: (height, -column)))

    def test_star_and_twins(self):
        self.right(STAR, WIDE)
        self.right(TWINS, (((0, 0, 1), (1, 0, 1)), (((0,), ()), ((1,), ()))))

    def test_lines_may_touch_at_a_bar(self):
        self.right(CHAIN, (((0, 4, 4), (1, 4, 4), (2, 4, 4)), (((4,), ()), ((4,), ()))))

    def test_loop(self):
        loop = Chart(1, ((0, 0),), ((0, 1),), 0, (4,))
        turned = (((0, 0, 0),), (((0, -1, 0), ((1, -1, 0), (-1, -1, 0))),))
        self.right(loop, turned)
        other = Chart(1, ((0, 0),), ((0, 1),), 1, (4,))
        self.right(other, moved(turned, lambda height, column: (height, -column)))
        self.assertIs(is_picture(other, turned), False)

    def test_moved_and_spread(self):
        pictures = [(a_path(), STRAIGHT), (a_ring(0), LEFT), (a_ring(1), RIGHT), (STAR, WIDE), (a_path(), zigzag(3))]
        for chart, picture in pictures:
            changes = ((5, -7, 1, 1), (-10 ** 19, 10 ** 19, 1, 1), (0, 0, 3, 10 ** 18), (1, 2, 30, 7))
            for up, across, more, wider in changes:
                self.right(chart, moved(picture, lambda h, c: (more * h + up, wider * c + across)))

    def test_numbers_of_any_size(self):
        far = 10 ** 60
        self.right(a_ring(0), moved(LEFT, lambda height, column: (height * far - far, column * far + 3)))

    def test_mirrored(self):
        flipped = moved(WIDE, lambda height, column: (height, -column))
        self.assertEqual(kept(STAR, flipped), (True, True, False, True))
        self.assertIs(is_picture(STAR, flipped), False)
        self.right(Chart(4, STAR.arrows, ((0, 4, 2), (1,), (3,), (5,)), 0, (1,) * 3), flipped)

    def test_turnings_at_their_limits(self):
        for many in (0, 1, 2, 99, 100):
            self.right(a_path(), zigzag(many))
            self.assertEqual(cost(a_path(7), zigzag(many)), 7 * many)
        for many in (101, 102, 150):
            self.assertEqual(kept(a_path(), zigzag(many)), (True,) * 4)
            self.assertIs(is_picture(a_path(), zigzag(many)), False)


class BrokenTest(unittest.TestCase):
    def broken(self, chart, picture, condition):
        """The picture breaks this condition alone."""
        self.assertEqual(kept(chart, picture), tuple(k != condition for k in (1, 2, 3, 4)))
        self.assertIs(is_picture(chart, picture), False)
        with self.assertRaises(NoPicture):
            cost(chart, picture)
        with self.assertRaises(NoPicture):
            big(chart, picture)

    def test_a_line_beside_its_bars(self):
        self.broken(a_path(), (((0, 0, 0), (1, 1, 1)), (((0,), ()),)), 1)
        self.broken(a_path(), (((0, 0, 0), (1, 1, 1)), (((1,), ()),)), 1)
        self.broken(a_path(), (((0, 0, 5), (1, 1, 5)), (((0,), ()),)), 1)
        self.broken(a_path(), (((0, 0, 3), (1, 0, 5)), (((4,), ()),)), 1)
        self.broken(a_path(), (((0, 0, 5), (1, 0, 5)), (((6,), ()),)), 1)
        self.broken(a_path(), (((0, 0, 5), (1, 0, 5)), (((-1,), ()),)), 1)

    def test_a_line_beside_a_turning(self):
        turned = (((0, 0, 0), (9, 2, 2)), (((0, 1, 2), ((5, 0, 1), (3, 2, 2))),))
        self.broken(a_path(), turned, 1)
        turned = (((0, 0, 0), (9, 2, 2)), (((0, 1, 2), ((5, 0, 0), (3, 1, 2))),))
        self.broken(a_path(), turned, 1)

    def test_an_arrow_that_goes_down(self):
        self.broken(CHAIN, (((1, 0, 0), (0, 0, 1), (2, 1, 1)), (((0,), ()), ((1,), ()))), 1)

    def test_a_turning_the_wrong_way(self):
        self.broken(a_path(), (((0, 0, 0), (9, 2, 2)), (((0, 1, 2), ((3, 0, 1), (5, 1, 2))),)), 1)
        self.broken(a_path(), (((6, 0, 0), (9, 2, 2)), (((0, 1, 2), ((5, 0, 1), (3, 1, 2))),)), 1)

    def test_a_line_of_no_height(self):
        self.assertIs(is_picture(a_path(), (((0, 0, 0), (0, 0, 0)), (((0,), ()),))), False)
        self.assertIs(is_picture(a_path(), (((0, 0, 1), (0, 1, 2)), (((1,), ()),))), False)

    def test_a_loop_without_turnings(self):
        loop = Chart(1, ((0, 0),), ((0, 1),), 0, (1,))
        self.assertIs(is_picture(loop, (((0, 0, 0),), (((0,), ()),))), False)
        # Another arrow's line runs through the loop's place, just where the loop would begin and end.
        for outer in (0, 2):
            chart = Chart(3, ((0, 2), (1, 1), (0, 1)), ((0, 4), (2, 5, 3), (1,)), outer, (1,) * 3)
            picture = (((0, 0, 1), (1, 0, 1), (2, 0, 0)), (((0,), ()), ((0,), ()), ((1,), ())))
            self.assertEqual(kept(chart, picture)[:3], (False, False, True))
            self.assertIs(is_picture(chart, picture), False)

    def test_bars_that_meet(self):
        self.broken(STAR, (((0, 0, 2), (1, 0, 0), (1, 1, 2), (1, 2, 2)), WIDE[1]), 2)
        self.broken(STAR, (((0, 0, 2), (1, 0, 1), (1, 1, 1), (1, 2, 2)), WIDE[1]), 2)
        self.broken(STAR, (((0, 0, 2), (1, 0, 0), (1, 1, 1), (1, 1, 2)), WIDE[1]), 2)

    def test_bars_that_meet_away_from_all_lines(self):
        self.broken(STAR, (((0, 0, 20), (1, 0, 5), (1, 3, 10), (1, 20, 20)), (((0,), ()), ((10,), ()), ((20,), ()))), 2)

    def test_a_turning_that_meets_a_bar(self):
        picture = (((0, 0, 0), (9, 2, 2)), (((0, 1, 2), ((5, 0, 1), (3, 1, 2))),))
        self.assertIs(is_picture(a_path(), picture), True)
        self.broken(a_path(), with_node(picture, (0, 1), (5, 1, 2)), 2)
        self.broken(a_path(), with_node(picture, (1, 0, 1, 0), (5, -3, 2)), 2)
        self.broken(a_path(), with_node(picture, (1, 0, 1, 1), (3, 0, 2)), 2)

    def test_a_line_through_a_bar(self):
        self.broken(STAR, (((0, 0, 2), (3, 0, 0), (1, 0, 1), (1, 2, 2)), WIDE[1]), 2)
        self.broken(STAR, (((0, 0, 2), (3, 0, 0), (2, 1, 1), (1, 0, 2)), WIDE[1]), 2)

    def test_two_lines_in_one_column(self):
        picture = (((0, 0, 0), (1, 0, 0)), (((0,), ()), ((0,), ())))
        self.broken(TWINS, picture, 2)
        turned = (((0, 0, 0), (9, 0, 0)), (((0, 0, 0), ((5, 0, 0), (3, 0, 0))),))
        self.broken(a_path(), turned, 2)
        turned = (((0, 0, 0), (9, 0, 1)), (((0, 1, 1), ((5, 0, 1), (3, 1, 1))),))
        self.broken(a_path(), turned, 2)

    def test_another_round(self):
        for columns in ((0, 2, 1), (1, 0, 2), (2, 1, 0)):
            bars = ((0, 0, 2),) + tuple((1, column, column) for column in columns)
            self.broken(STAR, (bars, tuple(((column,), ()) for column in columns)), 3)
        for columns in ((1, 2, 0), (2, 0, 1)):
            bars = ((0, 0, 2),) + tuple((1, column, column) for column in columns)
            self.assertIs(is_picture(STAR, (bars, tuple(((column,), ()) for column in columns))), True)

    def test_another_round_below_a_bar(self):
        heap = Chart(4, ((1, 0), (2, 0), (3, 0)), ((1, 3, 5), (0,), (2,), (4,)), 0, (1,) * 3)
        bars = ((1, 0, 2), (0, 2, 2), (0, 1, 1), (0, 0, 0))
        self.assertIs(is_picture(heap, (bars, (((2,), ()), ((1,), ()), ((0,), ())))), True)
        bars = ((1, 0, 2), (0, 0, 0), (0, 1, 1), (0, 2, 2))
        self.broken(heap, (bars, (((0,), ()), ((1,), ()), ((2,), ()))), 3)

    def test_what_goes_out_does_not_lie_together(self):
        knot = Chart(4, ((0, 1), (1, 2), (0, 1), (1, 3)), ((0, 4), (1, 2, 5, 6), (3,), (7,)), 0, (1,) * 4)
        for columns in ((0, 0, 1, 1), (0, 1, 1, 0), (1, 0, 0, 1)):
            bars = ((0, 0, 1), (1, 0, 1), (2, columns[1], columns[1]), (2, columns[3], columns[3]))
            picture = (bars, tuple(((column,), ()) for column in columns))
            self.assertEqual(kept(knot, picture)[:3], (True, True, False))
            self.assertIs(is_picture(knot, picture), False)

    def test_another_rim_outside(self):
        self.broken(a_ring(1), LEFT, 4)
        self.broken(a_ring(0), RIGHT, 4)
        self.broken(TWINS, (((0, 0, 1), (1, 0, 1)), (((1,), ()), ((0,), ()))), 4)

    def test_leftmost_of_the_highest_bars(self):
        # A ring beside a leaf as high as the ring's top: the leaf's place is the leftmost, or the top is.
        chart = Chart(3, ((0, 1), (1, 0), (0, 2)), ((0, 3, 4), (1, 2), (5,)), 1, (1, 1, 1))
        ring = (((0, 1, 2), ()), ((1, 2, 1), ((3, 1, 2), (-1, 1, 2))))
        for leaf, right in ((5, False), (-5, True)):
            bars = ((0, min(leaf, 1), max(leaf, 1)), (1, 1, 1), (3, leaf, leaf))
            picture = (bars, (((1,), ()), ring[1], ((leaf,), ())))
            self.assertEqual(is_picture(chart, picture), all(kept(chart, picture)))
            self.assertEqual(is_picture(chart, picture), right)


class FormTest(unittest.TestCase):
    PICTURES = [(a_path(), STRAIGHT), (a_ring(0), LEFT), (a_path(), zigzag(2))]

    def refused(self, chart, thing):
        self.assertIs(is_picture(chart, thing), False)
        for function in (cost, big):
            with self.assertRaises(NoPicture):
                function(chart, thing)

    def test_odd_things(self):
        for chart, _ in self.PICTURES:
            for thing in odd_things() + [0, (), ((), ()), nested(40, ((), ())), a_ring(), NoPicture()]:
                self.refused(chart, thing)

    def test_odd_things_anywhere_in_a_picture(self):
        for chart, picture in self.PICTURES:
            for way, _ in nodes(picture):
                for thing in odd_things():
                    self.refused(chart, with_node(picture, way, thing))

    def test_lists_anywhere_in_a_picture(self):
        for chart, picture in self.PICTURES:
            for way, node in nodes(picture):
                if isinstance(node, tuple):
                    self.refused(chart, with_node(picture, way, list(node)))

    def test_more_or_less_items_anywhere_in_a_picture(self):
        for chart, picture in self.PICTURES:
            for way, node in nodes(picture):
                if isinstance(node, tuple):
                    for other in (node[:-1], node + node[-1:], node + (0,), node + ((0, 0, 0),), (node,)):
                        if other != node:
                            self.refused(chart, with_node(picture, way, other))

    def test_flags_in_the_place_of_numbers(self):
        flat = with_node(STRAIGHT, (0, 0, 0), False)
        self.assertEqual(flat, STRAIGHT)
        for way, node in nodes(STRAIGHT):
            if isinstance(node, int):
                self.refused(a_path(), with_node(STRAIGHT, way, bool(node)))

    def test_bars_told_from_right_to_left(self):
        self.refused(a_path(), (((0, 1, 0), (1, 0, 1)), (((0,), ()),)))
        self.refused(a_path(), (((0, 0, 1), (1, 1, 0)), (((1,), ()),)))
        self.refused(a_path(), with_node(zigzag(1), (1, 0, 1, 0), (10, 1, 0)))

    def test_a_picture_of_another_chart(self):
        self.refused(a_ring(), STRAIGHT)
        self.refused(a_path(), LEFT)
        self.refused(STAR, STRAIGHT)

    def test_turns_without_columns_and_the_other_way_round(self):
        bars, ((columns, turns),) = zigzag(2)
        wrong = [
            (columns, ()), ((0,), turns), (columns[:3], turns), (columns, turns[:2]), (columns[:4], turns[:3]),
            (columns[:4], turns), ((), ()), (turns, columns), (columns,), (columns, turns, ()),
        ]
        for way in wrong:
            self.refused(a_path(), (bars, (way,)))

    def test_an_odd_number_of_turnings(self):
        # Drawn clear, each line between its bars: but the arrow comes to its head from above.
        self.refused(a_path(), (((0, 0, 0), (1, 1, 1)), (((0, 1), ((5, 0, 1),)),)))
        self.refused(a_path(), (((5, 0, 0), (1, 1, 1)), (((0, 1), ((7, 0, 1),)),)))

    def test_many_objects(self):
        self.refused(a_path(), (((0, 0, 0), (1, 0, 0)), ((tuple([0] * 9001), tuple([0] * 9000)),)))


class CostTest(unittest.TestCase):
    def test_sums(self):
        self.assertEqual(cost(a_path(), STRAIGHT), 0)
        self.assertEqual(cost(a_ring(0), LEFT), 5)
        self.assertEqual(cost(a_ring(1, (1, 1000)), RIGHT), 1000)
        other = (((1, 0, 0), (0, 0, 0)), (((0, -1, 0), ((2, -1, 0), (-1, -1, 0))), ((0,), ())))
        self.assertEqual(cost(a_ring(0), other), 1)
        self.assertEqual(cost(a_path(3), zigzag(4)), 12)

    def test_sum_over_several_arrows(self):
        once = ((0, 1, 2), ((10, 0, 1), (5, 1, 2)))
        twice = ((8, 9, 10, 11, 12), ((10, 8, 9), (5, 9, 10), (10, 10, 11), (5, 11, 12)))
        picture = (((0, 0, 20), (20, 2, 2), (20, 12, 12), (20, 20, 20)), (once, twice, ((20,), ())))
        self.assertTrue(is_picture(STAR, picture))
        self.assertEqual(cost(STAR, picture), 1 + 2 * 2)

    def test_none(self):
        self.assertIsNone(cost(a_path(None), zigzag(1)))
        self.assertIsNone(cost(a_ring(0, (1, None)), LEFT))
        self.assertEqual(cost(a_path(None), STRAIGHT), 0)
        self.assertEqual(cost(a_ring(0, (None, 5)), LEFT), 5)
        self.assertEqual(cost(TWINS, (((0, 0, 1), (1, 0, 1)), (((0,), ()), ((1,), ())))), 0)


class BigTest(unittest.TestCase):
    def test_path(self):
        self.assertEqual(big(a_path(), STRAIGHT), (0, 1))
        self.assertEqual(big(a_path(), zigzag(5)), (0, 1))

    def test_no_tips(self):
        self.assertEqual(big(a_ring(0), LEFT), ())

    def test_star(self):
        self.assertEqual(tips(STAR), (0, 1, 2, 3))
        for columns, angle in (((0, 1, 2), 4), ((1, 2, 0), 2), ((2, 0, 1), 0)):
            bars = ((0, 0, 2),) + tuple((1, column, column) for column in columns)
            self.assertEqual(big(STAR, (bars, tuple(((column,), ()) for column in columns))), (angle, 1, 3, 5))

    def test_all_come_in(self):
        heap = Chart(4, ((1, 0), (2, 0), (3, 0)), ((1, 3, 5), (0,), (2,), (4,)), 0, (1,) * 3)
        for columns, angle in (((2, 1, 0), 5), ((1, 0, 2), 3), ((0, 2, 1), 1)):
            bars = ((1, 0, 2),) + tuple((0, column, column) for column in columns)
            self.assertEqual(big(heap, (bars, tuple(((column,), ()) for column in columns))), (angle, 0, 2, 4))

    def test_only_tips_have_one(self):
        picture = (((0, 4, 4), (1, 4, 4), (2, 4, 4)), (((4,), ()), ((4,), ())))
        self.assertEqual(big(CHAIN, picture), (0, 3))

    def test_twins(self):
        self.assertEqual(big(TWINS, (((0, 0, 1), (1, 0, 1)), (((0,), ()), ((1,), ())))), (2, 1))

    def test_nothing_is_changed(self):
        before = repr(LEFT)
        for function in (is_picture, cost, big):
            self.assertEqual(function(a_ring(0), LEFT), function(a_ring(0), LEFT))
        self.assertEqual(repr(LEFT), before)
        self.assertEqual(len(numbers_of(LEFT)), 16)
