"""Charts that are not tangled: grown at random, of any size, and charts of known shapes."""

import math
import random

from bigcorners.charts import Chart, rims
from tests.things import raw_rims


def lies_together(row):
    """Whether what goes out at a round lies together."""
    return sum(row[at] % 2 != row[at - 1] % 2 for at in range(len(row))) <= 2


class Growing:
    """A chart that grows arrow by arrow, each within one rim."""

    def __init__(self, rng, loop):
        self.rng = rng
        self.pairs = [(0, 0)] if loop else [(0, 1)]
        self.ends = [[0, 1]] if loop else [[0], [1]]

    def place_of(self, end):
        """The place of an end."""
        return [place for place, row in enumerate(self.ends) if end in row][0]

    def grow(self, new, all_tips):
        """One arrow more, if it fits; with new to a new place; with all_tips only between tips that stay tips."""
        rng, number = self.rng, len(self.pairs)
        rim = rng.choice(raw_rims(self.ends))
        first, second = rng.choice(rim), rng.choice(rim)
        kept = [list(row) for row in self.ends]
        out, come = rng.choice(((2 * number, 2 * number + 1), (2 * number + 1, 2 * number)))
        at = self.place_of(first)
        self.ends[at].insert(self.ends[at].index(first) + 1, out)
        if new:
            self.ends.append([come])
            to = len(self.ends) - 1
        else:
            to = self.place_of(second)
            self.ends[to].insert(self.ends[to].index(second) + 1, come)
        touched = (self.ends[at], self.ends[to])
        if not all(lies_together(row) and not (all_tips and len({end % 2 for end in row}) > 1) for row in touched):
            self.ends = kept
            return
        self.pairs.append((at, to) if out % 2 == 0 else (to, at))


def grown(rng, places, arrows, prices=(1, 2, 7, 1000), tips=0.0, leaf=0.5):
    """A chart of so many places and arrows. tips: how much is done to have tips; leaf: how early places come."""
    while True:
        growing = Growing(rng, places == 1 or (arrows >= places and rng.random() < 0.2))
        for _ in range(60 * arrows):
            have, many = len(growing.ends), len(growing.pairs)
            if many == arrows:
                break
            must = places - have >= arrows - many
            new = have < places and (must or rng.random() < leaf)
            growing.grow(new, rng.random() < tips)
        if len(growing.pairs) == arrows and len(growing.ends) == places:
            rounds = tuple(tuple(row) for row in growing.ends)
            chosen = tuple(rng.choice(prices) for _ in growing.pairs)
            return Chart(places, tuple(growing.pairs), rounds, rng.randrange(2 * arrows), chosen)


def grown_charts(seed, many, most=8, prices=(1, 2, 3), tips=(0, 0.5, 1)):
    """So many small charts."""
    rng = random.Random(seed)
    found = []
    while len(found) < many:
        arrows = rng.randint(1, most)
        places = rng.randint(1, arrows + 1)
        found.append(grown(rng, places, arrows, prices, rng.choice(tips) if places > 1 else 0, rng.choice((0.2, 0.7))))
    return found


def great_charts(seed, many, prices=(1, 2, 7, 1000)):
    """So many charts of 40 places, of 80 arrows, or of both."""
    rng = random.Random(seed)
    found = []
    while len(found) < many:
        places, arrows = rng.choice(((40, 39), (40, 60), (40, 80), (1, 80), (2, 80), (10, 80), (25, 80)))
        tips = rng.choice((0, 0, 0.5, 1)) if places > 1 else 0
        found.append(grown(rng, places, arrows, prices, tips, rng.choice((0.2, 0.7))))
    return found


def changed(chart, outer=None, prices=None):
    """The chart with another outer rim or other prices."""
    return Chart(
        chart.places, chart.arrows, chart.rounds, chart.outer if outer is None else outer, prices or chart.prices
    )


def all_outers(chart):
    """The chart with each of its rims as the outer one."""
    return [changed(chart, rim[0]) for rim in rims(chart)]


def with_price(chart, arrow, price):
    """The chart with another price of one arrow."""
    return changed(chart, None, chart.prices[:arrow] + (price,) + chart.prices[arrow + 1:])


def nested_loops(prices):
    """Loops at one place, each within the one before; the outer rim lies round all."""
    many = len(prices)
    outs = [2 * loop for loop in range(many)]
    return Chart(1, ((0, 0),) * many, (tuple(outs + [end + 1 for end in reversed(outs)]),), 1, prices)


def loops_apart(one, other):
    """Two loops at one place, none within the other; the outer rim lies round both."""
    return Chart(1, ((0, 0), (0, 0)), ((0, 2, 3, 1),), 0, (one, other))


def side_by_side(prices):
    """Arrows from one place to another one."""
    many = len(prices)
    outs = [2 * arrow for arrow in range(many)]
    return Chart(2, ((0, 1),) * many, (tuple(outs), tuple(end + 1 for end in reversed(outs))), 0, prices)


def ring_of(prices):
    """A ring of places, each with an arrow to the next one."""
    many = len(prices)
    arrows = tuple((place, (place + 1) % many) for place in range(many))
    rounds = tuple((2 * place, 2 * ((place - 1) % many) + 1) for place in range(many))
    return Chart(many, arrows, rounds, 0, prices)


def star(outward, inward):
    """A tree: one place in the middle, with arrows out of it and arrows into it, all beside each other."""
    arrows = [(0, 1 + leaf) for leaf in range(outward)] + [(1 + outward + leaf, 0) for leaf in range(inward)]
    ends = [2 * arrow + (arrow >= outward) for arrow in range(len(arrows))]
    rounds = [tuple(ends)] + [(2 * arrow + (arrow < outward),) for arrow in range(len(arrows))]
    return Chart(1 + len(arrows), tuple(arrows), tuple(rounds), 0, (None,) * len(arrows))


def chain(steps):
    """A tree without branches: each step is 1 for an arrow onward, 0 for an arrow back."""
    arrows = tuple((at, at + 1) if step else (at + 1, at) for at, step in enumerate(steps))
    rounds = [[] for _ in range(len(steps) + 1)]
    for number, (tail, head) in enumerate(arrows):
        rounds[tail].append(2 * number)
        rounds[head].append(2 * number + 1)
    return Chart(len(rounds), arrows, tuple(tuple(row) for row in rounds), 0, (None,) * len(arrows))


def from_points(rng, points, edges):
    """The chart of straight arrows between points; the outer rim is any, places and arrows stand in any order."""
    names, edges = list(points), list(edges)
    rng.shuffle(names)
    rng.shuffle(edges)
    rounds = []
    for name in names:
        row = []
        for number, pair in enumerate(edges):
            for side in (0, 1):
                if pair[side] == name:
                    to = points[pair[1 - side]]
                    row.append((-math.atan2(to[1] - points[name][1], to[0] - points[name][0]), 2 * number + side))
        rounds.append(tuple(end for _, end in sorted(row)))
    arrows = tuple((names.index(tail), names.index(head)) for tail, head in edges)
    return Chart(len(names), arrows, tuple(rounds), 0, (1,) * len(edges))


def two_coloured(points, edges):
    """The edges, each from a point with an even sum to one with an odd one: so all points are tips."""
    return [(one, other) if sum(one) % 2 == 0 else (other, one) for one, other in edges]


def grid(rng, width, height):
    """A grid, all of tips, the outer rim lying outside."""
    points = {(x, y): (x, y) for x in range(width) for y in range(height)}
    edges = [((x, y), (x + 1, y)) for x in range(width - 1) for y in range(height)]
    edges += [((x, y), (x, y + 1)) for x in range(width) for y in range(height - 1)]
    chart = from_points(rng, points, two_coloured(points, edges))
    return changed(chart, max(rims(chart), key=len)[0])


def rings_of_tips(rng, around, many):
    """Rings one within another, each of so many (an even number) tips, with arrows between neighbours."""
    points = {}
    for at in range(around):
        for ring in range(many):
            angle = 2 * math.pi * at / around
            points[(at, ring)] = ((ring + 1) * math.cos(angle), (ring + 1) * math.sin(angle))
    edges = [((at, ring), ((at + 1) % around, ring)) for at in range(around) for ring in range(many)]
    edges += [((at, ring), (at, ring + 1)) for at in range(around) for ring in range(many - 1)]
    return from_points(rng, points, two_coloured(points, edges))


def two_hubs(rng, many):
    """Two tips from which arrows lead to each of many tips between them."""
    points = {("between", at): (0, at) for at in range(many)}
    points.update({"one": (-100, 0.5), "other": (100, 0.5)})
    return from_points(rng, points, [(hub, ("between", at)) for hub in ("one", "other") for at in range(many)])


def spiked_ring(rng, many, price):
    """A ring that goes up and down so many times, an arrow from outside or to outside at each of its places.

    Inside it asks for one less than many, and there is no tip: all comes over the one arrow that can be bought.
    """
    points, edges = {}, []
    for at in range(2 * many):
        angle = math.pi * at / many
        points[("ring", at)] = (math.cos(angle), math.sin(angle))
        points[("spike", at)] = (2 * math.cos(angle), 2 * math.sin(angle))
        edges.append((("spike", at), ("ring", at)) if at % 2 == 0 else (("ring", at), ("spike", at)))
    for at in range(0, 2 * many, 2):
        edges += [(("ring", at), ("ring", (at + side) % (2 * many))) for side in (1, -1)]
    chart = from_points(rng, points, edges)
    chart = changed(chart, max(rims(chart), key=len)[0])
    return with_price(changed(chart, None, (None,) * (4 * many)), bought_of(chart), price)


def bought_of(chart):
    """The least arrow between two places with more than one arrow."""
    return min(
        number for number, pair in enumerate(chart.arrows) if min(len(chart.rounds[place]) for place in pair) > 1
    )


def known_shapes():
    """Charts of known shapes."""
    rng = random.Random(3)
    return [
        nested_loops((1,)), nested_loops((3, 1, 2)), nested_loops((1,) * 80), loops_apart(2, 5),
        side_by_side((1,)), side_by_side((None, 4, 2)), side_by_side((7,) * 80), ring_of((4, 2, 3)), ring_of((None, 9)),
        ring_of((1000,) * 40), star(39, 0), star(0, 5), star(20, 19), chain((1, 1, 0, 1, 0, 0)), chain((1, 0) * 19),
        grid(rng, 3, 3), grid(rng, 5, 8), rings_of_tips(rng, 4, 3), rings_of_tips(rng, 8, 5), two_hubs(rng, 4),
        two_hubs(rng, 38), spiked_ring(rng, 2, 3), spiked_ring(rng, 10, 1000),
    ]
