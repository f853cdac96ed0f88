"""Slow searches that follow the words of the document, to hold the answers of the package against."""

from itertools import product

from bigcorners.charts import asks, rim_of, rims, sides, tips


def shares(options):
    """All ways to give each item to one of its options, told by how many each option gets: a set of dicts' items."""
    found = {()}
    for row in options:
        longer = set()
        for share in found:
            for option in row:
                got = dict(share)
                got[option] = got.get(option, 0) + 1
                longer.add(tuple(sorted(got.items())))
        found = longer
    return found


def tip_options(chart):
    """For each tip, the rims of its angles."""
    return [sorted({rim_of(chart, angle) for angle in chart.rounds[place]}) for place in tips(chart)]


def can_turn_so(chart, turned):
    """Whether there is a right picture in which the arrows turn so often.

    A turning is a top, at which both lines come in, and a bottom, at which both go out: so the rims at its sides
    have one fork more, and ask for one more, and each of the two has its big angle at the one or the other side.
    """
    needs = list(asks(chart))
    options = tip_options(chart)
    for arrow, many in enumerate(turned):
        for rim in sides(chart, arrow):
            needs[rim] += many
        options += [sorted(set(sides(chart, arrow)))] * (2 * many)
    if min(needs) < 0:
        return False
    return tuple((rim, need) for rim, need in enumerate(needs) if need) in shares(options)


def cheapest_ways(chart, most):
    """The least cost, and all rows of numbers of turnings at it, if no arrow turns more often than most: or None."""
    rows = []
    for turned in product(*[range(most + 1) if cost is not None else (0,) for cost in chart.prices]):
        rows.append((sum(many * (cost or 0) for many, cost in zip(turned, chart.prices)), turned))
    best, found = None, []
    for total, turned in sorted(rows):
        if best is not None and total > best:
            break
        if can_turn_so(chart, turned):
            best = total
            found.append(turned)
    return best, found


def slow_fates(chart, most):
    """The fates, told by all cheapest pictures."""
    _, found = cheapest_ways(chart, most)
    told = []
    for arrow in range(len(chart.arrows)):
        turns = [turned[arrow] > 0 for turned in found]
        told.append("always" if all(turns) else "some" if any(turns) else "never")
    return tuple(told)


def slow_is_table(chart, thing):
    """Whether a tuple of integers is a table."""
    return len(thing) == len(rims(chart)) and all(
        cost is None or abs(thing[sides(chart, arrow)[0]] - thing[sides(chart, arrow)[1]]) <= cost
        for arrow, cost in enumerate(chart.prices)
    )


def slow_worth(chart, table):
    """What a table is worth."""
    asked = sum(number * ask for number, ask in zip(table, asks(chart)))
    return asked - sum(max(table[rim] for rim in row) for row in tip_options(chart))


def slow_is_dam(chart, lot):
    """Whether a lot of rims is a dam."""
    beside = [row for row in tip_options(chart) if set(row) & set(lot)]
    shut = all(
        cost is None or (sides(chart, arrow)[0] in lot) == (sides(chart, arrow)[1] in lot)
        for arrow, cost in enumerate(chart.prices)
    )
    return shut and sum(asks(chart)[rim] for rim in lot) > len(beside)


def all_lots(many):
    """All lots of numbers below many."""
    return [tuple(at for at in range(many) if row[at]) for row in product((False, True), repeat=many)]


def slow_dealings(chart):
    """All dealings, ascending."""
    wanted = tuple((rim, ask) for rim, ask in enumerate(asks(chart)) if ask)
    found = []
    if min(asks(chart)) >= 0:
        for row in product(*[sorted(chart.rounds[place]) for place in tips(chart)]):
            got = {}
            for angle in row:
                got[rim_of(chart, angle)] = got.get(rim_of(chart, angle), 0) + 1
            if tuple(sorted(got.items())) == wanted:
                found.append(row)
    return found


def parts_of(picture):
    """All bars of a picture, and all columns of its lines."""
    bars, ways = picture
    every = list(bars) + [bar for _, turns in ways for bar in turns]
    return every, [column for columns, _ in ways for column in columns]


def turned_in(picture):
    """How often each arrow turns in a picture."""
    return tuple(len(turns) // 2 for _, turns in picture[1])


def spread_of(picture):
    """How far apart the heights of a picture are, and how far its columns."""
    bars, columns = parts_of(picture)
    heights = [bar[0] for bar in bars]
    columns += [column for bar in bars for column in bar[1:]]
    return max(heights) - min(heights), max(columns) - min(columns)
