"""Benches: charts that change, and changes that are taken back and done again."""

from bigcorners.charts import MOST_ARROWS, MOST_PLACES, Chart, hang_together, is_end, is_price, other_end, rim_numbers
from bigcorners.errors import Apart, Full, NoArrow, NoEnd, NoPrice, NothingDone, NotOneRim
from bigcorners.kinds import is_between


class Bench:
    """Holds a chart, and leads its changes [8.1]."""

    def __init__(self, chart):
        self.now = chart
        # The charts ahead of the changes that can be taken back, and those behind the ones that can be done again.
        self.past = []
        self.undone = []

    def chart(self):
        """The chart as it is now."""
        return self.now

    def put(self, angle, other, price):
        """A new arrow from angle to angle, through their rim."""
        if not is_end(self.now, angle) or not is_end(self.now, other):
            raise NoEnd()
        numbers = rim_numbers(self.now)
        if numbers[angle] != numbers[other]:
            raise NotOneRim()
        if not is_price(price):
            raise NoPrice()
        if len(self.now.arrows) == MOST_ARROWS:
            raise Full()
        self.change(with_arrow(self.now, angle, other, price))

    def strike(self, arrow):
        """The chart without an arrow."""
        keep_arrow(self.now, arrow)
        left = self.now.arrows[:arrow] + self.now.arrows[arrow + 1:]
        if len(left) == 0 or not hang_together(self.now.places, left):
            raise Apart()
        self.change(without_arrow(self.now, arrow))

    def turn(self, arrow):
        """An arrow leads the other way round."""
        keep_arrow(self.now, arrow)
        self.change(with_turned(self.now, arrow))

    def split(self, arrow):
        """A new place on an arrow."""
        keep_arrow(self.now, arrow)
        if self.now.places == MOST_PLACES or len(self.now.arrows) == MOST_ARROWS:
            raise Full()
        self.change(with_split(self.now, arrow))

    def ask(self, arrow, price):
        """Another price of an arrow."""
        keep_arrow(self.now, arrow)
        if not is_price(price):
            raise NoPrice()
        prices = self.now.prices[:arrow] + (price,) + self.now.prices[arrow + 1:]
        self.change(Chart(self.now.places, self.now.arrows, self.now.rounds, self.now.outer, prices))

    def outside(self, angle):
        """Another outer rim."""
        if not is_end(self.now, angle):
            raise NoEnd()
        self.change(Chart(self.now.places, self.now.arrows, self.now.rounds, angle, self.now.prices))

    def change(self, chart):
        """From now on the chart is this one."""
        self.past.append(self.now)
        self.undone = []
        self.now = chart

    def undo(self):
        """Takes back the last change that is not taken back."""
        if not self.past:
            raise NothingDone()
        self.undone.append(self.now)
        self.now = self.past.pop()

    def redo(self):
        """Does the change again that was taken back last."""
        if not self.undone:
            raise NothingDone()
        self.past.append(self.now)
        self.now = self.undone.pop()

    def deeds(self):
        """How many changes can be taken back."""
        return len(self.past)

    def copy(self):
        """Another Bench that goes on apart."""
        other = Bench(self.now)
        other.past = list(self.past)
        other.undone = list(self.undone)
        return other

    def trying(self, action):
        """What a function returns that is called with the bench: behind it all is as it was."""
        now, past, undone = self.now, list(self.past), list(self.undone)
        try:
            return action(self)
        finally:
            self.now, self.past, self.undone = now, past, undone


def keep_arrow(chart, thing):
    """Raises NoArrow unless a thing is the number of an arrow."""
    if not is_between(thing, 0, len(chart.arrows) - 1):
        raise NoArrow()


def place_of(chart, end):
    """The place at which an end is."""
    return chart.arrows[end // 2][end % 2]


def with_arrow(chart, angle, other, price):
    """The chart with a new arrow, whose ends lie right behind the ends of these numbers."""
    out = 2 * len(chart.arrows)
    # At one and the same angle, what is put in later comes ahead.
    rounds = with_end_behind(with_end_behind(chart.rounds, other, out + 1), angle, out)
    arrows = chart.arrows + ((place_of(chart, angle), place_of(chart, other)),)
    return Chart(chart.places, arrows, rounds, chart.outer, chart.prices + (price,))


def with_end_behind(rounds, end, new):
    """The rounds with a new end right behind an end."""
    changed = []
    for row in rounds:
        if end in row:
            at = row.index(end) + 1
            row = row[:at] + (new,) + row[at:]
        changed.append(row)
    return tuple(changed)


def without_arrow(chart, arrow):
    """The chart without an arrow, which leads between two rims: what is left hangs together."""
    lost = (2 * arrow, 2 * arrow + 1)
    numbers = rim_numbers(chart)
    beside = [numbers[end] for end in lost]
    outer_rims = [numbers[chart.outer]]
    if outer_rims[0] in beside:
        outer_rims = beside
    outside = [angle for angle, rim in enumerate(numbers) if rim in outer_rims and angle not in lost]
    rounds = [tuple([end_without(end, arrow) for end in row if end not in lost]) for row in chart.rounds]
    arrows = chart.arrows[:arrow] + chart.arrows[arrow + 1:]
    prices = chart.prices[:arrow] + chart.prices[arrow + 1:]
    return Chart(chart.places, arrows, tuple(rounds), end_without(outside[0], arrow), prices)


def end_without(end, arrow):
    """The number of an end of another arrow without this one."""
    if end > 2 * arrow:
        return end - 2
    return end


def with_turned(chart, arrow):
    """The chart with an arrow turned round."""
    tail, head = chart.arrows[arrow]
    arrows = chart.arrows[:arrow] + ((head, tail),) + chart.arrows[arrow + 1:]
    rounds = [tuple([end_turned(end, arrow) for end in row]) for row in chart.rounds]
    return Chart(chart.places, arrows, tuple(rounds), end_turned(chart.outer, arrow), chart.prices)


def end_turned(end, arrow):
    """The number of an end when an arrow is turned round."""
    if end // 2 == arrow:
        return other_end(end)
    return end


def with_split(chart, arrow):
    """The chart with a new place on an arrow."""
    tail, head = chart.arrows[arrow]
    arrows = chart.arrows[:arrow] + ((tail, chart.places),) + chart.arrows[arrow + 1:] + ((chart.places, head),)
    out = 2 * len(chart.arrows)
    rounds = [tuple([out + 1 if end == 2 * arrow + 1 else end for end in row]) for row in chart.rounds]
    rounds.append((2 * arrow + 1, out))
    # The angle 2a + 1 lies at the left of the arrow a at its new head, too: each rim keeps its least angle.
    prices = chart.prices + (chart.prices[arrow],)
    return Chart(chart.places + 1, arrows, tuple(rounds), chart.outer, prices)
