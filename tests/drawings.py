"""Random drawings: bars and upright lines without crossings, from which charts and their right pictures are read."""

import random

from bigcorners.charts import Chart, rim_of, rims
from tests.things import ends_around, outer_rim, tagged_lines


def random_bars(rng, width, height):
    """Bars on a small field, apart from each other."""
    bars = []
    for level in range(height):
        column = rng.randint(0, 2)
        while column < width:
            right = min(width - 1, column + rng.randint(0, 3))
            bars.append((level, column, right))
            column = right + rng.randint(1, 4)
    return bars


def random_lines(rng, bars, width):
    """Lines (column, lower bar, higher bar), each from a bar to the next one over its column."""
    share = rng.choice((0.3, 0.5, 0.8))
    lines = []
    for column in range(width):
        stack = sorted((bar[0], number) for number, bar in enumerate(bars) if bar[1] <= column <= bar[2])
        lines += [(column, low, high) for (_, low), (_, high) in zip(stack, stack[1:]) if rng.random() < share]
    return lines


def largest_part(bars, lines):
    """The lines of the part that has most of them."""
    part = {number: number for number in range(len(bars))}
    for _, low, high in lines:
        old, new = part[low], part[high]
        part = {number: new if name == old else name for number, name in part.items()}
    names = [part[low] for _, low, _ in lines]
    best = max(names, key=names.count)
    return [line for line in lines if part[line[1]] == best]


def ends_of_lines(lines, bar):
    """The lines above a bar and those below it, each from left to right."""
    return sorted(line for line in lines if line[1] == bar), sorted(line for line in lines if line[2] == bar)


def follow(lines, turns, line):
    """The lines and bars on the way from the bar below a line, as an arrow goes: None if it ends from above."""
    way, row = [line], [line[1], line[2]]
    upward = True
    while row[-1] in turns:
        if len(way) > len(lines):
            return None
        both = [other for other in lines if row[-1] in (other[1], other[2])]
        line = both[1] if both[0] == line else both[0]
        way.append(line)
        row.append(line[1] if line[2] == row[-1] else line[2])
        upward = not upward
    return (way, row) if upward else None


def trace(lines, turns):
    """All arrows as (lines, bars), or a turn that must be a place."""
    found = []
    starts = [line for line in lines if line[1] not in turns]
    for line in starts:
        way = follow(lines, turns, line)
        if way is None:
            return line[2]
        found.append(way)
    used = [line for way, _ in found for line in way]
    rest = [line for line in lines if line not in used]
    if rest:
        return rest[0][1] if rest[0][1] in turns else rest[0][2]
    return found


def arrows_of(rng, lines):
    """The bars that are places, and the arrows as (lines, bars)."""
    bars = sorted({line[1] for line in lines} | {line[2] for line in lines})
    turns = set()
    share = rng.choice((0.2, 0.9))
    for bar in bars:
        above, below = ends_of_lines(lines, bar)
        if (len(above), len(below)) in ((2, 0), (0, 2)) and rng.random() < share:
            turns.add(bar)
    found = trace(lines, turns)
    while isinstance(found, int):
        turns.discard(found)
        found = trace(lines, turns)
    return [bar for bar in bars if bar not in turns], found


def drawing(rng):
    """A random chart and a right picture of it, or None."""
    width = rng.randint(2, 7)
    bars = random_bars(rng, width, rng.randint(2, 7))
    lines = random_lines(rng, bars, width)
    if not lines:
        return None
    places, found = arrows_of(rng, largest_part(bars, lines))
    if len(places) > 40 or not 1 <= len(found) <= 80:
        return None
    rng.shuffle(places)
    rng.shuffle(found)
    arrows = tuple((places.index(row[0]), places.index(row[-1])) for _, row in found)
    ways = tuple((tuple(line[0] for line in way), tuple(bars[bar] for bar in row[1:-1])) for way, row in found)
    picture = (tuple(bars[bar] for bar in places), ways)
    return as_chart(rng, len(places), arrows, picture), picture


class Rough:
    """What the slow judge needs to tell the rounds of a picture."""

    def __init__(self, arrows):
        self.arrows = arrows


def arched(rng, chart, picture):
    """A drawing and one more arrow: from its highest place over all, past one side and from below to its lowest."""
    bars, ways = picture
    every = list(bars) + [bar for _, turns in ways for bar in turns]
    high, low = max(every)[0], min(every)[0]
    tails = [place for place, bar in enumerate(bars) if bar[0] == high]
    heads = [place for place, bar in enumerate(bars) if bar[0] == low]
    if not tails or not heads:
        return None
    tail, head = rng.choice(tails), rng.choice(heads)
    start, goal = bars[tail][1], bars[head][2]
    side = rng.choice((min(bar[1] for bar in every) - 1, max(bar[2] for bar in every) + 1))
    turns = ((high + 1, min(start, side), max(start, side)), (low - 1, min(goal, side), max(goal, side)))
    at = rng.randint(0, len(ways))
    arrows = chart.arrows[:at] + ((tail, head),) + chart.arrows[at:]
    new = (bars, ways[:at] + (((start, side, goal), turns),) + ways[at:])
    return as_chart(rng, chart.places, arrows, new), new


def as_chart(rng, places, arrows, picture):
    """The chart that a picture draws."""
    rounds = tuple(tuple(ends_around(Rough(arrows), picture, place)) for place in range(places))
    prices = tuple(rng.choice((None, 1, 3, 1000)) for _ in arrows)
    rough = Chart(places, arrows, rounds, 0, prices)
    return Chart(places, arrows, rounds, rims(rough)[outer_rim(rough, picture)][0], prices)


def drawings(seed, many, turned=False):
    """So many random pairs (chart, right picture); if asked for, each with an arrow that turns of itself."""
    rng = random.Random(seed)
    found = []
    while len(found) < many:
        pair = drawing(rng)
        if pair is not None and (not turned or any(turns for _, turns in pair[1][1])):
            found.append(pair)
    return found


def wrinkled(rng, chart, picture):
    """A picture spread, with needless turnings in some of its lines: they lie beside the line, where nothing is."""
    def wide(bar):
        return (20 * bar[0], 5 * bar[1], 5 * bar[2] + 4)

    ways = [([], []) for _ in chart.arrows]
    for arrow, at, column, (_, one), (tag, other) in tagged_lines(chart, picture):
        many = rng.choice((0, 0, 0, 1, 2))
        columns = [5 * column + k for k in range(2 * many + 1)]
        if rng.random() < 0.5:
            columns.reverse()
        base = 20 * min(one[0], other[0])
        heights = (base + 12, base + 8) if at % 2 == 0 else (base + 8, base + 12)
        for k, pair in enumerate(zip(columns, columns[1:])):
            ways[arrow][1].append((heights[k % 2], min(pair), max(pair)))
        ways[arrow][0].extend(columns)
        if tag[0] == "turn":
            ways[arrow][1].append(wide(other))
    return (tuple(wide(bar) for bar in picture[0]), tuple((tuple(columns), tuple(turns)) for columns, turns in ways))


def moved(picture, change):
    """A picture with each height and column changed: change(height, column) gives the new ones."""
    def bar_moved(bar):
        ends = sorted((change(bar[0], bar[1])[1], change(bar[0], bar[2])[1]))
        return (change(bar[0], bar[1])[0], ends[0], ends[1])

    bars, ways = picture
    return (
        tuple(bar_moved(bar) for bar in bars),
        tuple(
            (tuple(change(0, column)[1] for column in columns), tuple(bar_moved(bar) for bar in turns))
            for columns, turns in ways
        ),
    )


def mirrored(chart):
    """A chart seen from behind: left is right."""
    rounds = tuple(tuple(reversed(row)) for row in chart.rounds)
    row = [row for row in chart.rounds if chart.outer in row][0]
    behind = row[(row.index(chart.outer) + 1) % len(row)]
    return Chart(chart.places, chart.arrows, rounds, behind, chart.prices)


def nudged(rng, picture):
    """A picture with one number changed a little."""
    flat = numbers_of(picture)
    at = rng.randrange(len(flat))
    flat[at] += rng.choice((-3, -2, -1, 1, 2, 3))
    return rebuilt(picture, flat)


def numbers_of(thing):
    """All integers of a nest of tuples."""
    if isinstance(thing, int):
        return [thing]
    return [number for item in thing for number in numbers_of(item)]


def rebuilt(thing, numbers):
    """The same nest of tuples with other integers: they are taken from the list."""
    if isinstance(thing, int):
        return numbers.pop(0)
    return tuple(rebuilt(item, numbers) for item in thing)


def lowest_rim(chart, picture):
    """The rim that lies outside, told by the lowest bars: by the words for the highest, turned round."""
    bars, ways = picture
    found = [(bar, ("place", place)) for place, bar in enumerate(bars)]
    for arrow, (columns, turns) in enumerate(ways):
        found += [(bar, ("turn", arrow, at)) for at, bar in enumerate(turns)]
    tag = min(found)[1]
    if tag[0] == "turn":
        columns = ways[tag[1]][0]
        right = columns[tag[2]] < columns[tag[2] + 1]
        return rim_of(chart, 2 * tag[1] if right else 2 * tag[1] + 1)
    above = [(-way[0][0], 2 * arrow) for arrow, way in enumerate(ways) if chart.arrows[arrow][0] == tag[1]]
    return rim_of(chart, min(above)[1])
