"""Charts: places, arrows, how the arrows lie round each place, and the rims between them."""

from bigcorners.errors import BadChart, NoArrow, NoEnd, Tangled
from bigcorners.kinds import are_whole, is_between, is_row

MOST_PLACES = 40
MOST_ARROWS = 80
MOST_PRICE = 1000


class Chart:
    """A chart [1.1]. It never changes."""

    def __init__(self, places, arrows, rounds, outer, prices):
        part = wrong_part(places, arrows, rounds, outer, prices)
        if part is not None:
            raise BadChart(part)
        self.places = places
        self.arrows = tuple([(tail, head) for tail, head in arrows])
        self.rounds = tuple([begun_least(row) for row in rounds])
        self.outer = least_beside(rims_between(rounds), outer)
        self.prices = tuple(prices)

    def __eq__(self, other):
        return (
            type(self) is type(other)
            and self.places == other.places
            and self.arrows == other.arrows
            and self.rounds == other.rounds
            and self.outer == other.outer
            and self.prices == other.prices
        )


def wrong_part(places, arrows, rounds, outer, prices):
    """The part that BadChart names, the first that is wrong in the order of [1.1], or None."""
    if not is_between(places, 1, MOST_PLACES):
        return ("places",)
    part = wrong_arrow(places, arrows)
    if part is None:
        part = wrong_round(places, arrows, rounds)
    if part is not None:
        return part
    if not hang_together(places, arrows):
        return ("apart",)
    if places + len(rims_between(rounds)) != len(arrows) + 2:
        return ("flat",)
    if not is_between(outer, 0, 2 * len(arrows) - 1):
        return ("outer",)
    if not is_row(prices, len(arrows)) or not all([is_price(price) for price in prices]):
        return ("prices",)
    return None


def wrong_arrow(places, arrows):
    """The part of BadChart that speaks of arrows, or None."""
    if not isinstance(arrows, tuple) or not 1 <= len(arrows) <= MOST_ARROWS:
        return ("arrows",)
    for number, pair in enumerate(arrows):
        if not is_row(pair, 2) or not all([is_between(place, 0, places - 1) for place in pair]):
            return ("arrow", number)
    return None


def wrong_round(places, arrows, rounds):
    """The part of BadChart that speaks of rounds, or None."""
    if not is_row(rounds, places):
        return ("rounds",)
    ends = ends_by_place(places, arrows)
    for place, row in enumerate(rounds):
        # Only integers are sorted: other items may have no order.
        if not is_row(row, len(ends[place])) or not are_whole(row) or sorted(row) != ends[place]:
            return ("round", place)
    return None


def ends_by_place(places, arrows):
    """For each place, the ascending list of the ends at it."""
    ends = [[] for place in range(places)]
    for number, (tail, head) in enumerate(arrows):
        ends[tail].append(2 * number)
        ends[head].append(2 * number + 1)
    return ends


def hang_together(places, arrows):
    """Whether arrows lead, forward or back, from place 0 to all places."""
    reached = {0: True}
    grown = True
    while grown:
        grown = False
        for tail, head in arrows:
            if (tail in reached) != (head in reached):
                reached[tail] = True
                reached[head] = True
                grown = True
    return len(reached) == places


def is_price(thing):
    """Whether a thing may stand among the prices of a chart."""
    return thing is None or is_between(thing, 1, MOST_PRICE)


def begun_least(row):
    """A round, begun with its least end."""
    at = row.index(min(row))
    return row[at:] + row[:at]


def rims_between(rounds):
    """The ascending list of the rims between the arrows that lie so round their places."""
    before = {}
    for row in rounds:
        for at, end in enumerate(row):
            before[end] = row[at - 1]
    found = []
    walked = {}
    # Each rim is met first at its least angle, so the rims come in ascending order.
    for least in range(len(before)):
        if least not in walked:
            rim = rim_from(before, least)
            for angle in rim:
                walked[angle] = True
            found.append(rim)
    return found


def rim_from(before, least):
    """The rim that begins with this angle. (before: for each end, the one that lies before it at its place.)"""
    rim = [least]
    angle = before[other_end(least)]
    while angle != least:
        rim.append(angle)
        angle = before[other_end(angle)]
    return tuple(rim)


def other_end(end):
    """The end at which one comes out who goes in at an end."""
    return end ^ 1


def least_beside(found, angle):
    """The least angle of the rim, of these, that an angle is on."""
    return [rim[0] for rim in found if angle in rim][0]


def is_end(chart, thing):
    """Whether a thing is an end of a chart, and so an angle."""
    return is_between(thing, 0, 2 * len(chart.arrows) - 1)


def rims(chart):
    """The ascending list of the rims of a chart."""
    return rims_between(chart.rounds)


def rim_numbers(chart):
    """For each angle, the number of its rim."""
    numbers = [0] * (2 * len(chart.arrows))
    for number, rim in enumerate(rims(chart)):
        for angle in rim:
            numbers[angle] = number
    return numbers


def rim_of(chart, angle):
    """The number of the rim of an angle."""
    if not is_end(chart, angle):
        raise NoEnd()
    return rim_numbers(chart)[angle]


def sides(chart, arrow):
    """The numbers of the rims at the left and at the right of an arrow."""
    if not is_between(arrow, 0, len(chart.arrows) - 1):
        raise NoArrow()
    numbers = rim_numbers(chart)
    return (numbers[2 * arrow + 1], numbers[2 * arrow])


def words(chart):
    """For each angle, whether it is a fork, a meet or straight."""
    told = [""] * (2 * len(chart.arrows))
    for row in chart.rounds:
        for at, end in enumerate(row):
            told[row[at - 1]] = word_between(row[at - 1], end)
    return told


def word_between(end, behind):
    """What the angle between two ends is. (The ends that go out are even.)"""
    if end % 2 != behind % 2:
        return "straight"
    if end % 2 == 0:
        return "fork"
    return "meet"


def word_at(chart, angle):
    """Whether an angle is a "fork", a "meet" or "straight"."""
    if not is_end(chart, angle):
        raise NoEnd()
    return words(chart)[angle]


def asks(chart):
    """For each rim, what it asks for."""
    told = words(chart)
    asked = []
    for rim in rims(chart):
        forks = len([angle for angle in rim if told[angle] == "fork"])
        if chart.outer in rim:
            asked.append(forks + 1)
        else:
            asked.append(forks - 1)
    return tuple(asked)


def tips(chart):
    """The lot of the places at which all ends go out, or all come in."""
    return tuple([place for place, row in enumerate(chart.rounds) if changes(row) == 0])


def tangled(chart):
    """The least place at which what goes out does not lie together, or None."""
    for place, row in enumerate(chart.rounds):
        if changes(row) > 2:
            return place
    return None


def keep_untangled(chart):
    """Raises Tangled for a tangled chart."""
    place = tangled(chart)
    if place is not None:
        raise Tangled(place)


def changes(row):
    """How many angles of a round are straight."""
    return len([at for at, end in enumerate(row) if word_between(row[at - 1], end) == "straight"])
