"""What pictures cost: tables, which bound it from below, dams, which bar every picture, and how arrows turn."""

from bigcorners.charts import asks, keep_untangled, rim_numbers, rims, tips
from bigcorners.errors import NoTable
from bigcorners.flows import bare_net, settled_net
from bigcorners.kinds import are_whole, is_between, is_row


def is_table(chart, thing):
    """Whether a thing is a table of a chart."""
    keep_untangled(chart)
    if not is_row(thing, len(rims(chart))) or not are_whole(thing):
        return False
    return all([
        cost is None or abs(thing[left] - thing[right]) <= cost
        for (left, right), cost in zip(all_sides(chart), chart.prices)
    ])


def all_sides(chart):
    """For each arrow, the pair of the rims at its left and at its right."""
    numbers = rim_numbers(chart)
    return [(numbers[2 * arrow + 1], numbers[2 * arrow]) for arrow in range(len(chart.arrows))]


def rims_at_tips(chart):
    """For each tip, the rims that have an angle there, one as often as it has one."""
    numbers = rim_numbers(chart)
    return [[numbers[angle] for angle in chart.rounds[place]] for place in tips(chart)]


def worth(chart, table):
    """What a table is worth: no picture that can be bought costs less."""
    if not is_table(chart, table):
        raise NoTable()
    asked = sum([number * many for number, many in zip(table, asks(chart))])
    return asked - sum([max([table[rim] for rim in around]) for around in rims_at_tips(chart)])


def is_dam(chart, thing):
    """Whether a thing is a dam of a chart."""
    keep_untangled(chart)
    asked = asks(chart)
    if not is_lot(thing) or not all([is_between(rim, 0, len(asked) - 1) for rim in thing]):
        return False
    inside = [rim in thing for rim in range(len(asked))]
    for (left, right), cost in zip(all_sides(chart), chart.prices):
        if cost is not None and inside[left] != inside[right]:
            return False
    tips_beside = [around for around in rims_at_tips(chart) if any([inside[rim] for rim in around])]
    return sum([asked[rim] for rim in thing]) > len(tips_beside)


def is_lot(thing):
    """Whether a thing is an ascending tuple of integers."""
    if not isinstance(thing, tuple) or not are_whole(thing):
        return False
    return all([low < high for low, high in zip(thing, thing[1:])])


def price(chart):
    """What the cheapest right picture costs, or None if there is none that can be bought."""
    net, _ = settled_net(chart)
    return total_if_settled(net)


def total_if_settled(net):
    """What all that flows in a net costs, or None if something is left or lacks."""
    if not net.is_settled():
        return None
    return net.total()


def table(chart):
    """A table worth the price, or None if there is no price."""
    net, _ = settled_net(chart)
    if not net.is_settled():
        return None
    # A unit costs least on its way to each rim: no arc makes the way to its head cheaper than that to its tail by more
    # than its cost, and along arcs where something flows it is just the cost.
    spent, _ = net.ways_from(list(range(len(net.left))))
    return tuple([spent[rim] for rim in range(len(rims(chart)))])


def dam(chart):
    """A dam, or None if there is none."""
    net, _ = settled_net(chart)
    if net.is_settled():
        return None
    # What is left can't get to any of the rims that lack: no tip that has some, and no arrow that can be bought,
    # leads from the rims that are reached to the others.
    reached, _ = net.ways_from(net.nodes_with_some())
    return tuple([rim for rim in range(len(rims(chart))) if rim not in reached])


def turnings(chart):
    """How often each arrow turns in one of the cheapest right pictures, or None if there is no price."""
    net, gates = settled_net(chart)
    if not net.is_settled():
        return None
    return tuple([abs(flow_over(net, gate)) for gate in gates])


def flow_over(net, gate):
    """How many units flow over an arrow from its left to its right, below 0 if from right to left."""
    if gate is None:
        return 0
    return net.flowing[gate] - net.flowing[gate + 1]


def fates(chart):
    """For each arrow, whether it turns in none, in some or in all of the cheapest pictures, or None without a price."""
    net, gates = settled_net(chart)
    if not net.is_settled():
        return None
    return tuple([fate(net, gate) for gate in gates])


def fate(net, gate):
    """What becomes of an arrow in the cheapest pictures."""
    if gate is None or not may_turn(net, gate):
        return "never"
    if flow_over(net, gate) == 0 or may_stay(net, gate):
        return "some"
    return "always"


def may_turn(net, gate):
    """Whether something may flow over an arrow as cheaply: from the one side to the other, and back for its cost less.

    (Where something flows, it can be taken back so.)
    """
    right, left = net.heads[2 * gate], net.heads[2 * gate + 1]
    return -net.costs[2 * gate] in (cost_between(net, right, left), cost_between(net, left, right))


def cost_between(net, start, goal):
    """What the cheapest way costs from one side of an arrow to the other."""
    spent, _ = net.ways_from([start])
    return spent[goal]


def may_stay(net, gate):
    """Whether all could flow as cheaply with nothing over an arrow."""
    other = net.copy()
    other.close(gate)
    other.close(gate + 1)
    other.settle()
    return total_if_settled(other) == net.total()


def outers(chart):
    """For each rim, the price, or None, of the chart that has it as the outer one."""
    net, _ = bare_net(chart)
    net.settle()
    told = []
    for rim in range(len(rims(chart))):
        other = net.copy()
        other.left[rim] -= 2
        other.settle()
        told.append(total_if_settled(other))
    return tuple(told)
