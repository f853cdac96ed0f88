"""Pictures of charts: whether one is right, what its turnings cost, and its big angles."""

from bigcorners.charts import begun_least, rim_numbers, tips
from bigcorners.errors import NoPicture
from bigcorners.kinds import are_whole, is_row

MOST_TURNINGS = 100


def is_picture(chart, thing):
    """Whether a thing is a right picture of a chart."""
    if not has_form(chart, thing):
        return False
    bars = all_bars(thing)
    lines = all_lines(chart, thing)
    if not lines_reach(bars, lines) or not keeps_clear(bars, lines):
        return False
    drawn_rounds = ends_drawn(chart.arrows, thing)
    if not rounds_hold(chart, drawn_rounds):
        return False
    numbers = rim_numbers(chart)
    return numbers[outer_angle(thing, drawn_rounds)] == numbers[chart.outer]


def cost(chart, picture):
    """What the turnings of a right picture cost, or None if one can't be bought."""
    if not is_picture(chart, picture):
        raise NoPicture()
    total = 0
    for price, (_, turns) in zip(chart.prices, picture[1]):
        if turns:
            if price is None:
                return None
            total += price * (len(turns) // 2)
    return total


def big(chart, picture):
    """For each tip, its big angle in a right picture."""
    if not is_picture(chart, picture):
        raise NoPicture()
    drawn_rounds = ends_drawn(chart.arrows, picture)
    # At a tip all ends are on one side of its bar, and the way round its other side is behind the last one.
    return tuple([drawn_rounds[place][-1] for place in tips(chart)])


def has_form(chart, thing):
    """Whether a thing has a bar for each place and a way for each arrow, wherever they lie."""
    if not is_row(thing, 2):
        return False
    bars, ways = thing
    if not is_row(bars, chart.places) or not is_row(ways, len(chart.arrows)):
        return False
    return all([is_bar(bar) for bar in bars]) and all([is_way(way) for way in ways])


def is_bar(thing):
    """Whether a thing is a bar."""
    return is_row(thing, 3) and are_whole(thing) and thing[1] <= thing[2]


def is_way(thing):
    """Whether a thing is a pair of columns and turns that fit each other."""
    if not is_row(thing, 2):
        return False
    columns, turns = thing
    if not isinstance(columns, tuple) or not isinstance(turns, tuple):
        return False
    if len(turns) % 2 == 1 or len(turns) > 2 * MOST_TURNINGS or len(columns) != len(turns) + 1:
        return False
    return are_whole(columns) and all([is_bar(bar) for bar in turns])


def all_bars(picture):
    """The bars of the places, behind them those of the turnings, arrow by arrow."""
    bars = list(picture[0])
    for _, turns in picture[1]:
        bars.extend(turns)
    return bars


def all_lines(chart, picture):
    """Each line as (column, lower bar, higher bar), as they should lie: the bars by their numbers in all_bars."""
    lines = []
    behind = chart.places
    for (tail, head), (columns, turns) in zip(chart.arrows, picture[1]):
        row = [tail] + list(range(behind, behind + len(turns))) + [head]
        behind += len(turns)
        for at, column in enumerate(columns):
            if at % 2 == 0:
                lines.append((column, row[at], row[at + 1]))
            else:
                lines.append((column, row[at + 1], row[at]))
    return lines


def lines_reach(bars, lines):
    """Whether each line's column is one of both its bars, and these lie as they should."""
    for column, low, high in lines:
        if not bars[low][0] < bars[high][0]:
            return False
        if not covers(bars[low], column) or not covers(bars[high], column):
            return False
    return True


def covers(bar, column):
    """Whether a bar lies over a column."""
    return bar[1] <= column <= bar[2]


def keeps_clear(bars, lines):
    """Whether no bars and lines meet but where they should, if lines_reach holds.

    It goes upward, bar by bar, with the columns of the lines that stand there. Nothing meets exactly if below
    each bar there stand just the lines that end at it, each column once: so each line leads from a bar to the
    very next one that lies over its column.
    """
    begin, end = columns_by_bar(bars, lines)
    ordered = sorted([(bar[0], bar[1], number) for number, bar in enumerate(bars)])
    for (height, left, number), (higher, left_behind, _) in zip(ordered, ordered[1:]):
        if height == higher and left_behind <= bars[number][2]:
            return False
    standing = []
    for _, left, number in ordered:
        first = count_less(standing, left)
        behind = count_less(standing, bars[number][2] + 1)
        if standing[first:behind] != end[number] or len(set(begin[number])) != len(begin[number]):
            return False
        standing[first:behind] = begin[number]
    return True


def columns_by_bar(bars, lines):
    """For each bar, the ascending columns of the lines that begin at it, and of those that end at it, going up."""
    begin = [[] for bar in bars]
    end = [[] for bar in bars]
    for column, low, high in sorted(lines):
        begin[low].append(column)
        end[high].append(column)
    return (begin, end)


def count_less(columns, bound):
    """How many of the columns, which ascend, are less than a bound."""
    low = 0
    high = len(columns)
    while low < high:
        middle = (low + high) // 2
        if columns[middle] < bound:
            low = middle + 1
        else:
            high = middle
    return low


def ends_drawn(arrows, picture):
    """For each place, the ends above its bar from left to right, then those below it from right to left."""
    above = [[] for bar in picture[0]]
    below = [[] for bar in picture[0]]
    for arrow, (columns, _) in enumerate(picture[1]):
        tail, head = arrows[arrow]
        above[tail].append((columns[0], 2 * arrow))
        below[head].append((columns[-1], 2 * arrow + 1))
    rows = []
    for up, down in zip(above, below):
        ordered = sorted(up) + sorted(down, reverse=True)
        rows.append(tuple([end for column, end in ordered]))
    return rows


def rounds_hold(chart, drawn_rounds):
    """Whether the ends lie round the places as the chart has them."""
    return tuple([begun_least(row) for row in drawn_rounds]) == chart.rounds


def outer_angle(picture, drawn_rounds):
    """An angle of the rim that lies outside, told by the leftmost of the highest bars."""
    # No line goes up from a highest bar: if it is a place's, its last end is the leftmost one below it.
    found = [(-bar[0], bar[1], row[-1]) for bar, row in zip(picture[0], drawn_rounds)]
    for arrow, (columns, turns) in enumerate(picture[1]):
        for at in range(0, len(turns), 2):
            # The angles at the left and at the right of an arrow have the numbers of its head's and its tail's end.
            side = 2 * arrow + 1 if columns[at] < columns[at + 1] else 2 * arrow
            found.append((-turns[at][0], turns[at][1], side))
    return min(found)[2]
