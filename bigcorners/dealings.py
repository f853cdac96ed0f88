"""Dealings: how the big angles of a picture without turnings can be dealt out to the rims."""

from bigcorners.charts import asks, keep_untangled, rim_numbers, rim_of, tips
from bigcorners.errors import NoNumber
from bigcorners.kinds import are_whole, is_between, is_row
from bigcorners.pairings import count_pairings, in_good_order


def is_dealing(chart, thing):
    """Whether a thing is a dealing of a chart."""
    keep_untangled(chart)
    tip_places = tips(chart)
    if not is_row(thing, len(tip_places)) or not are_whole(thing):
        return False
    if not all([angle in chart.rounds[place] for place, angle in zip(tip_places, thing)]):
        return False
    numbers = rim_numbers(chart)
    needs = list(asks(chart))
    for angle in thing:
        needs[numbers[angle]] -= 1
    return all([need == 0 for need in needs])


def count_dealings(chart):
    """How many dealings there are."""
    keep_untangled(chart)
    return count_pairings(all_needs(chart), all_pairs(chart))


def all_needs(chart):
    """How many angles each rim needs, and behind them each tip: one."""
    return list(asks(chart)) + [1 for place in tips(chart)]


def all_pairs(chart):
    """Each tip and each rim that has angles there, with how many, in an order that is good to count in."""
    numbers = rim_numbers(chart)
    many = {}
    for at, place in enumerate(tips(chart)):
        for angle in chart.rounds[place]:
            pair = (len(asks(chart)) + at, numbers[angle])
            many[pair] = many.get(pair, 0) + 1
    return in_good_order(all_needs(chart), [(tip, rim, ways) for (tip, rim), ways in many.items()])


def dealing(chart, number):
    """The dealing with this number, in ascending order."""
    keep_untangled(chart)
    needs = all_needs(chart)
    pairs = all_pairs(chart)
    if not is_between(number, 0, count_pairings(needs, pairs) - 1):
        raise NoNumber()
    chosen = []
    for at, place in enumerate(tips(chart)):
        # Nothing is dealt to this tip by the count any more, but to its rim by hand.
        needs[len(asks(chart)) + at] = 0
        angle, number = angle_with(chart, place, number, needs, pairs)
        needs[rim_of(chart, angle)] -= 1
        chosen.append(angle)
    return tuple(chosen)


def angle_with(chart, place, number, needs, pairs):
    """The angle of a tip in the dealing with a number among those that are left, and its number among those with it."""
    numbers = rim_numbers(chart)
    ways = {}
    for angle in sorted(chart.rounds[place]):
        rim = numbers[angle]
        if rim not in ways:
            ways[rim] = count_pairings(less_one(needs, rim), pairs)
        if number < ways[rim]:
            break
        number -= ways[rim]
    return (angle, number)


def less_one(needs, node):
    """The needs, one less at a node."""
    return needs[:node] + [needs[node] - 1] + needs[node + 1:]
