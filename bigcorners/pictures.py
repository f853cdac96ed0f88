"""Pictures that are made: one that costs least, and one without turnings that has given big angles."""

from bigcorners.charts import rim_numbers, tips
from bigcorners.dealings import is_dealing
from bigcorners.errors import NoDealing
from bigcorners.flows import settled_net
from bigcorners.layouts import laid_out
from bigcorners.prices import flow_over


def picture(chart):
    """A right picture that costs least, or None if there is none that can be bought."""
    net, gates = settled_net(chart)
    if not net.is_settled():
        return None
    return made(chart, dealt(chart, net), [flow_over(net, gate) for gate in gates])


def dealt(chart, net):
    """For each tip, its least angle on the rim to which its unit flows."""
    numbers = rim_numbers(chart)
    first = max(numbers) + 1
    angles = []
    for at, place in enumerate(tips(chart)):
        rim = [net.heads[code] for code in net.leaving[first + at] if net.flowing[code // 2] > 0][0]
        angles.append(min([angle for angle in chart.rounds[place] if numbers[angle] == rim]))
    return angles


def drawn(chart, dealing):
    """A right picture without turnings that has these big angles."""
    if not is_dealing(chart, dealing):
        raise NoDealing()
    return made(chart, dealing, [0] * len(chart.arrows))


def made(chart, angles, flows):
    """The picture of a chart in which the tips have these big angles, and arrows turn so that units flow over them.

    Where units flow to the right of an arrow, the big angles of its turnings lie there, otherwise at its left.
    """
    rows = line_rows(flows)
    rounds = place_rounds(chart, rows)
    bigs = {line_end(rows, angle): True for angle in angles}
    for flow, row in zip(flows, rows):
        for pair in turn_rounds(row):
            bigs[pair[1] if flow > 0 else pair[0]] = True
        rounds.extend(turn_rounds(row))
    heights, columns = laid_out(rounds, bigs)
    bars = [bar_over(height, ends, columns) for height, ends in zip(heights, rounds)]
    ways = []
    behind = chart.places
    for row in rows:
        turns = tuple(bars[behind:behind + len(row) - 1])
        behind += len(turns)
        ways.append((tuple([columns[line] for line in row]), turns))
    return (tuple(bars[:chart.places]), tuple(ways))


def line_rows(flows):
    """For each arrow, the numbers of its lines, if it turns so often."""
    rows = []
    behind = 0
    for flow in flows:
        rows.append(list(range(behind, behind + 2 * abs(flow) + 1)))
        behind += len(rows[-1])
    return rows


def place_rounds(chart, rows):
    """The rounds of the places, with the ends of lines for those of arrows."""
    return [tuple([line_end(rows, end) for end in ends]) for ends in chart.rounds]


def line_end(rows, end):
    """The end of a line that lies where this end of an arrow does."""
    if end % 2 == 0:
        return 2 * rows[end // 2][0]
    return 2 * rows[end // 2][-1] + 1


def turn_rounds(row):
    """The rounds of the turnings of an arrow with these lines: of each, the end that comes first on its way.

    The angle of that end lies at the arrow's left, that of the other one at its right.
    """
    rounds = []
    for at, (line, behind) in enumerate(zip(row, row[1:])):
        # At a top both lines come in, at a bottom both go out.
        high = 1 - at % 2
        rounds.append((2 * line + high, 2 * behind + high))
    return rounds


def bar_over(height, ends, columns):
    """The bar over the columns of all lines that have these ends."""
    over = [columns[end // 2] for end in ends]
    return (height, min(over), max(over))
