"""Nets through which units flow as cheaply as can be, and the net between the tips and the rims of a chart."""

from bigcorners.charts import asks, keep_untangled, rim_numbers, tips


class Net:
    """Nodes, arcs from node to node, and how many units flow along each arc: any number may.

    An arc has two codes, as an arrow has two ends: by the code 2k a unit is sent along the arc k, by 2k + 1 one that
    flows there is taken back, and what it cost too.
    """

    def __init__(self, left):
        # For each node, how many units are left there to be sent on; a node that lacks some has less than 0.
        self.left = list(left)
        self.leaving = [[] for node in self.left]
        self.heads = []
        self.costs = []
        self.flowing = []
        self.closed = []

    def link(self, tail, head, cost):
        """A new arc; returns its number. No cost is below 0."""
        self.leaving[tail].append(len(self.heads))
        self.leaving[head].append(len(self.heads) + 1)
        self.heads.extend([head, tail])
        self.costs.extend([cost, -cost])
        self.flowing.append(0)
        self.closed.append(False)
        return len(self.flowing) - 1

    def close(self, arc):
        """Nothing flows along an arc any more: what did so is left at its tail, and lacks at its head."""
        self.left[self.heads[2 * arc + 1]] += self.flowing[arc]
        self.left[self.heads[2 * arc]] -= self.flowing[arc]
        self.flowing[arc] = 0
        self.closed[arc] = True

    def leads_on(self, code):
        """Whether a unit can go by a code."""
        if code % 2 == 0:
            return not self.closed[code // 2]
        return self.flowing[code // 2] > 0

    def ways_from(self, starts):
        """For each node that can be reached, the cost of the cheapest way to it, and the code by which that comes.

        There must be no round way that costs less than 0, and there is none as long as units go the cheapest ways.
        """
        spent = {node: 0 for node in starts}
        came = {}
        fresh = list(starts)
        while fresh:
            better = {}
            for node in fresh:
                for code in self.leaving[node]:
                    head = self.heads[code]
                    total = spent[node] + self.costs[code]
                    if self.leads_on(code) and (head not in spent or total < spent[head]):
                        spent[head] = total
                        came[head] = code
                        better[head] = True
            fresh = list(better)
        return (spent, came)

    def nodes_with_some(self):
        """The nodes at which units are left."""
        return [node for node, many in enumerate(self.left) if many > 0]

    def send_one(self):
        """Sends one unit the cheapest way to a node that lacks some; returns whether there was such a way."""
        spent, came = self.ways_from(self.nodes_with_some())
        lacking = [(total, node) for node, total in spent.items() if self.left[node] < 0]
        if not lacking:
            return False
        node = min(lacking)[1]
        self.left[node] += 1
        while node in came:
            code = came[node]
            self.flowing[code // 2] += 1 if code % 2 == 0 else -1
            node = self.heads[code ^ 1]
        self.left[node] -= 1
        return True

    def settle(self):
        """Sends units as long as one can be sent."""
        while self.send_one():
            pass

    def is_settled(self):
        """Whether nothing is left, and nothing lacks."""
        return all([many == 0 for many in self.left])

    def total(self):
        """What all that flows costs."""
        return sum([many * self.costs[2 * arc] for arc, many in enumerate(self.flowing)])

    def copy(self):
        """Another net that goes on apart. (Both have the same arcs: to none of them one may be added.)"""
        other = Net(self.left)
        other.leaving = self.leaving
        other.heads = self.heads
        other.costs = self.costs
        other.flowing = list(self.flowing)
        other.closed = list(self.closed)
        return other


def bare_net(chart):
    """The net of a chart as if no rim were the outer one, and for each arrow the number of its first arc, or None.

    Its nodes are the rims, by their numbers, and behind them the tips: each tip has one unit, a big angle, for one of
    the rims at which it has an angle. A turning of an arrow, which has two tips of its own, takes away a unit from
    the rim at its one side and gives one to that at its other side: the arrow's first arc leads from its left to its
    right, the one behind it back. No arc is needed where both sides are the same rim.
    """
    keep_untangled(chart)
    numbers = rim_numbers(chart)
    lacks = list(asks(chart))
    lacks[numbers[chart.outer]] -= 2
    tip_places = tips(chart)
    net = Net([-many for many in lacks] + [1 for place in tip_places])
    gates = []
    for arrow, cost in enumerate(chart.prices):
        left, right = numbers[2 * arrow + 1], numbers[2 * arrow]
        gates.append(None)
        if cost is not None and left != right:
            gates[arrow] = net.link(left, right, cost)
            net.link(right, left, cost)
    for at, place in enumerate(tip_places):
        for rim in sorted({numbers[angle] for angle in chart.rounds[place]}):
            net.link(len(lacks) + at, rim, 0)
    return (net, gates)


def settled_net(chart):
    """The same net with the outer rim, in which units were sent as long as one could be."""
    net, gates = bare_net(chart)
    net.left[rim_numbers(chart)[chart.outer]] -= 2
    net.settle()
    return (net, gates)
