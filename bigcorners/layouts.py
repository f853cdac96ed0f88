"""Laying out lines upward: a height for each bar and a column for each line, where the big angles are dealt out.

In each rim lines are added until at each bar some come in and some go out, and each rim has just one fork and one
meet. Then there is an order of the bars in which all lines lead upward, and one of the rims from left to right.
"""

from bigcorners.charts import other_end, rims_between, word_between


class Frame:
    """Lines that lie so round bars, and what is added to them.

    Ends and angles are numbered as in a chart. The SIDE of a line at which a rim lies has the number of the angle
    from which the rim goes along it: of line k, 2k upward (the side at the right), 2k + 1 downward (that at the left).
    A CORNER is a fork or a meet of a rim: the pair of its angle and the list of the sides along which the rim leads
    to it from the corner before.
    """

    def __init__(self, rounds, bigs):
        self.bigs = bigs
        self.bars = len(rounds)
        self.words = {}
        self.bar_of = {}
        for bar, row in enumerate(rounds):
            for at, end in enumerate(row):
                self.bar_of[end] = bar
                self.words[row[at - 1]] = word_between(row[at - 1], end)
        self.lines = [(self.bar_of[end], self.bar_of[end + 1]) for end in range(0, len(self.bar_of), 2)]
        # For each side, the number of what is its rim in the end.
        self.rim_of = {}
        self.rims = 0

    def fill(self, rim):
        """Adds lines in a rim."""
        kept = self.bridged(self.begun_low(self.corners(rim)))
        if kept[0][0] in self.bigs:
            self.fill_outside(kept)
        else:
            self.close(kept[0][1] + kept[1][1])

    def corners(self, rim):
        """The corners of a rim."""
        found = []
        sides = []
        for angle in rim:
            if self.words[angle] != "straight":
                found.append((angle, sides))
                sides = []
            sides.append(angle)
        found[0] = (found[0][0], sides + found[0][1])
        return found

    def begun_low(self, corners):
        """The same corners, begun behind the first one up to which the small ones outnumber the big ones most.

        So begun, a big one never needs what comes before it: the small ones behind it are enough.
        """
        surplus = 0
        lowest = 0
        begin = 0
        for at, (angle, _) in enumerate(corners):
            surplus += 1 if angle in self.bigs else -1
            if surplus < lowest:
                lowest = surplus
                begin = at + 1
        return corners[begin:] + corners[:begin]

    def bridged(self, corners):
        """What is left of the corners if, wherever two small ones come behind a big one, a line leads from the last
        one to the big one: it cuts off a rim of one fork and one meet."""
        kept = []
        for angle, sides in corners:
            while angle not in self.bigs and [corner[0] in self.bigs for corner in kept[-2:]] == [True, False]:
                _, between = kept.pop()
                high, ahead = kept.pop()
                side = self.bridge(angle, high)
                self.close(between + sides + [side])
                sides = ahead + [other_end(side)]
            kept.append((angle, sides))
        return kept

    def bridge(self, small, large):
        """A new line between two forks or two meets; returns its side on the way from the small one to the big one."""
        if self.words[small] == "fork":
            return self.new_line(self.bar_of[small], self.bar_of[large])
        return other_end(self.new_line(self.bar_of[large], self.bar_of[small]))

    def fill_outside(self, corners):
        """Adds lines outside: from the big forks to a bar below all, from the big meets to a bar above all."""
        rays = [self.ray(angle) for angle, _ in corners if angle in self.bigs]
        # Between each ray and the one before lies a rim, to which what small corners are there belong too.
        parts = [[ray, other_end(rays[number - 1])] for number, ray in enumerate(rays)]
        passed = 0
        for angle, sides in corners:
            parts[passed % len(parts)].extend(sides)
            if angle in self.bigs:
                passed += 1
        for part in parts:
            self.close(part)

    def ray(self, angle):
        """A new line that leads outside; returns its side on the way from the corner."""
        if self.words[angle] == "fork":
            return other_end(self.new_line(self.bars, self.bar_of[angle]))
        return self.new_line(self.bar_of[angle], self.bars + 1)

    def new_line(self, low, high):
        """A new line from bar to bar; returns its side upward."""
        self.lines.append((low, high))
        return 2 * len(self.lines) - 2

    def close(self, sides):
        """A rim that is done gets its number."""
        for side in sides:
            self.rim_of[side] = self.rims
        self.rims += 1


def laid_out(rounds, bigs):
    """The heights of the bars, each another, and the columns of the lines, each another, all from 0 on.

    rounds: for each bar, the ends at it, as in a chart. bigs: a dict with the big angles, as many in each rim as it
    asks for.
    """
    frame = Frame(rounds, bigs)
    many = len(frame.lines)
    for rim in rims_between(rounds):
        frame.fill(rim)
    # The bar below all is the first one.
    heights = [rank - 1 for rank in ranks(frame.bars + 2, frame.lines)]
    across = [(frame.rim_of[2 * line + 1], frame.rim_of[2 * line]) for line in range(len(frame.lines))]
    rank_of_rim = ranks(frame.rims, across)
    ordered = sorted([(rank_of_rim[across[line][0]], line) for line in range(many)])
    columns = [0] * many
    for column, (_, line) in enumerate(ordered):
        columns[line] = column
    return (heights[:frame.bars], columns)


def ranks(many, arcs):
    """For each of so many nodes, its place in an order in which each arc (from, to) leads onward."""
    leads = [[] for node in range(many)]
    waits = [0] * many
    for tail, head in arcs:
        leads[tail].append(head)
        waits[head] += 1
    ready = [node for node in range(many) if waits[node] == 0]
    found = [0] * many
    for rank in range(many):
        node = ready.pop()
        found[node] = rank
        for head in leads[node]:
            waits[head] -= 1
            if waits[head] == 0:
                ready.append(head)
    return found
