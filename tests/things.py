"""What several test files use: odd things, charts, and a slow judge that follows the document word by word."""

import random

from bigcorners.benches import Bench
from bigcorners.books import Book
from bigcorners.charts import Chart, rim_of, sides
from bigcorners.desks import Desk
from bigcorners.errors import BadChart, NoEnd
from bigcorners.runners import Runner


def nested(depth, inner=0, kind=tuple):
    """A thing nested so deep."""
    for _ in range(depth):
        inner = kind((inner,)) if kind is not dict else {"k": inner}
    return inner


def a_ring(outer=0, prices=(1, 5)):
    """The chart called ring in the document."""
    return Chart(2, ((0, 1), (1, 0)), ((0, 3), (1, 2)), outer, prices)


def a_path(price=1):
    """The chart called path in the document."""
    return Chart(2, ((0, 1),), ((0,), (1,)), 0, (price,))


def odd_things():
    """Objects of many kinds: none is an integer, and none makes sense as a part of a chart or of a picture."""
    return [
        True, False, None, "", "0", "places", b"", b"\x00", bytearray(b"a"), [], [0], [0, 1], {}, {0: 1},
        range(2), slice(1), object(), int, tuple, len, Ellipsis, NotImplemented, iter([]), memoryview(b"a"),
        (n for n in ()), zip(), lambda: 0, ValueError("x"), NoEnd(), BadChart(("places",)), a_path(), a_ring(),
        Chart, type, "x" * 20000, nested(40), nested(40, 0, list), nested(40, 0, dict), nested(39, ()),
        tuple([None] * 19999), [0] * 19999,
        Book(1, ((),)), Runner(Book(1, ((),)), (0,)), Bench(a_path()), Desk(), nested(39, Book(1, ((),))),
    ]


def spread_round(ends, places, rng):
    """Rounds begun anywhere."""
    rounds = []
    for row in ends:
        at = rng.randrange(len(row))
        rounds.append(tuple(row[at:] + row[:at]))
    return tuple(rounds)


def raw_rims(ends):
    """Rims of raw rounds, by the words of the document: a list of lists of angles."""
    behind = {}
    for row in ends:
        for at, end in enumerate(row):
            behind[end] = row[(at + 1) % len(row)]
    found = []
    left = set(behind)
    while left:
        angle = min(left)
        rim = []
        while angle in left:
            left.discard(angle)
            rim.append(angle)
            other = angle + 1 if angle % 2 == 0 else angle - 1
            angle = [candidate for candidate in behind if behind[candidate] == other][0]
        found.append(rim)
    return found


def random_parts(rng, arrows):
    """The parts of a random flat chart: it grows arrow by arrow, each within one rim."""
    if rng.random() < 0.3:
        pairs, ends = [(0, 0)], [[0, 1]]
    else:
        pairs, ends = [(0, 1)], [[0], [1]]
    while len(pairs) < arrows:
        number = len(pairs)
        rim = rng.choice(raw_rims(ends))
        first = rng.choice(rim)
        out, come = (2 * number, 2 * number + 1) if rng.random() < 0.5 else (2 * number + 1, 2 * number)
        at = [place for place, row in enumerate(ends) if first in row][0]
        if rng.random() < 0.45 and len(ends) < 40:
            ends[at].insert(ends[at].index(first) + 1, out)
            ends.append([come])
            to = len(ends) - 1
        else:
            second = rng.choice(rim)
            to = [place for place, row in enumerate(ends) if second in row][0]
            ends[at].insert(ends[at].index(first) + 1, out)
            ends[to].insert(ends[to].index(second) + 1, come)
        pairs.append((at, to) if out % 2 == 0 else (to, at))
    prices = tuple(rng.choice((None, 1, 2, 7, 1000)) for _ in pairs)
    return len(ends), tuple(pairs), spread_round(ends, len(ends), rng), rng.randrange(2 * len(pairs)), prices


def random_charts(seed, many, most=14):
    """Random charts."""
    rng = random.Random(seed)
    return [Chart(*random_parts(rng, rng.randint(1, most))) for _ in range(many)]


def tagged_bars(chart, picture):
    """All bars with what they are: ("place", p) or ("turn", arrow, number)."""
    bars, ways = picture
    found = [(("place", place), bar) for place, bar in enumerate(bars)]
    for arrow, (columns, turns) in enumerate(ways):
        found += [(("turn", arrow, at), bar) for at, bar in enumerate(turns)]
    return found


def tagged_lines(chart, picture):
    """All lines: (arrow, number, column, tag and bar that it leaves, tag and bar to which it leads)."""
    bars, ways = picture
    found = []
    for arrow, (columns, turns) in enumerate(ways):
        tail, head = chart.arrows[arrow]
        row = [(("place", tail), bars[tail])]
        row += [(("turn", arrow, at), bar) for at, bar in enumerate(turns)]
        row += [(("place", head), bars[head])]
        for at, column in enumerate(columns):
            found.append((arrow, at, column, row[at], row[at + 1]))
    return found


def reaches(chart, picture):
    """The first condition of a right picture."""
    for arrow, at, column, (_, one), (_, other) in tagged_lines(chart, picture):
        if not (one[1] <= column <= one[2] and other[1] <= column <= other[2]):
            return False
        if not (one[0] < other[0] if at % 2 == 0 else one[0] > other[0]):
            return False
    return True


def share(low, high, low_other, high_other):
    """The least and the greatest of what two rows of numbers share, or None."""
    low, high = max(low, low_other), min(high, high_other)
    return (low, high) if low <= high else None


def clear(chart, picture):
    """The second condition of a right picture."""
    bars, lines = tagged_bars(chart, picture), tagged_lines(chart, picture)
    for k, (_, one) in enumerate(bars):
        for _, other in bars[k + 1:]:
            if one[0] == other[0] and share(one[1], one[2], other[1], other[2]):
                return False
    for _, _, column, (tag, one), (tag_other, other) in lines:
        low, high = sorted((one[0], other[0]))
        for tag_bar, bar in bars:
            if tag_bar not in (tag, tag_other) and bar[1] <= column <= bar[2] and low <= bar[0] <= high:
                return False
    for k, first in enumerate(lines):
        for second in lines[k + 1:]:
            if first[2] == second[2] and not may_touch(first, second):
                return False
    return True


def may_touch(first, second):
    """Whether two lines of one column share no height, or only that of a bar that they come to from two sides."""
    low, high = sorted((first[3], first[4]), key=lambda one: one[1][0])
    low_other, high_other = sorted((second[3], second[4]), key=lambda one: one[1][0])
    shared = share(low[1][0], high[1][0], low_other[1][0], high_other[1][0])
    if shared is None:
        return True
    if shared[0] != shared[1]:
        return False
    return (high[0] == low_other[0] and high[1][0] == shared[0]) or (high_other[0] == low[0] and low[1][0] == shared[0])


def ends_around(chart, picture, place):
    """The ends of a place: those above its bar from left to right, then those below it from right to left."""
    above, below = [], []
    for arrow, at, column, (tag, _), (tag_other, _) in tagged_lines(chart, picture):
        if at == 0 and tag == ("place", place):
            above.append((column, 2 * arrow))
        if tag_other == ("place", place):
            below.append((-column, 2 * arrow + 1))
    return [end for _, end in sorted(above) + sorted(below)]


def same_round(one, other):
    """Whether two rows are one round, wherever begun."""
    return any(list(one[at:]) + list(one[:at]) == list(other) for at in range(len(one)))


def rounds_agree(chart, picture):
    """The third condition of a right picture."""
    return all(
        same_round(ends_around(chart, picture, place), chart.rounds[place]) for place in range(chart.places)
    )


def outer_rim(chart, picture):
    """The rim that lies outside, told by the highest bars."""
    bars = tagged_bars(chart, picture)
    highest = max(bar[0] for _, bar in bars)
    tag = min((bar[1], tag) for tag, bar in bars if bar[0] == highest)[1]
    if tag[0] == "place":
        below = [
            (column, 2 * arrow + 1)
            for arrow, _, column, _, (tag_other, _) in tagged_lines(chart, picture) if tag_other == tag
        ]
        return rim_of(chart, min(below)[1]) if below else None
    columns = picture[1][tag[1]][0]
    return sides(chart, tag[1])[0 if columns[tag[2]] < columns[tag[2] + 1] else 1]


def outer_agrees(chart, picture):
    """The fourth condition of a right picture."""
    return outer_rim(chart, picture) == rim_of(chart, chart.outer)


def kept(chart, picture):
    """The four conditions, each by itself, of what has the form of a picture."""
    return (
        reaches(chart, picture), clear(chart, picture), rounds_agree(chart, picture), outer_agrees(chart, picture)
    )
