"""A second account of the charts on a bench, by halves of arrows that never move; it follows the words of 8.1."""

from bigcorners.charts import Chart
from tests.things import raw_rims

ENDS = 2


class Account:
    """A chart: each arrow has a name and two halves, (name, 0) and (name, 1), of which one is its tail's."""

    def __init__(self, chart):
        self.names = list(range(len(chart.arrows)))
        self.fresh = len(self.names)
        self.tail_half = {name: 0 for name in self.names}
        self.prices = dict(enumerate(chart.prices))
        self.rounds = [[divmod(end, ENDS) for end in row] for row in chart.rounds]
        # An angle is told by the half behind which it lies.
        self.outer = divmod(chart.outer, ENDS)

    def copy(self):
        """Another one."""
        other = Account.__new__(Account)
        other.names, other.fresh, other.tail_half = list(self.names), self.fresh, dict(self.tail_half)
        other.prices, other.rounds = dict(self.prices), [list(row) for row in self.rounds]
        other.outer = self.outer
        return other

    def number(self, half):
        """The number of the end that is this half."""
        name, which = half
        return 2 * self.names.index(name) + (0 if which == self.tail_half[name] else 1)

    def half(self, end):
        """The half that is the end of this number."""
        name = self.names[end // 2]
        return (name, self.tail_half[name] if end % 2 == 0 else 1 - self.tail_half[name])

    def place_of(self, half):
        """The place at which a half is."""
        return [place for place, row in enumerate(self.rounds) if half in row][0]

    def parts(self):
        """places, arrows, rounds, outer and prices, as a chart would keep them."""
        arrows = []
        for name in self.names:
            tail = (name, self.tail_half[name])
            arrows.append((self.place_of(tail), self.place_of((name, 1 - tail[1]))))
        rounds = []
        for row in self.rounds:
            ends = [self.number(half) for half in row]
            at = ends.index(min(ends))
            rounds.append(tuple(ends[at:] + ends[:at]))
        outer = min(self.rim_of(self.number(self.outer)))
        return len(self.rounds), tuple(arrows), tuple(rounds), outer, tuple(self.prices[name] for name in self.names)

    def chart(self):
        """The chart of these parts."""
        return Chart(*self.parts())

    def rim_of(self, angle):
        """The angles of the rim of an angle."""
        rims = raw_rims([[self.number(half) for half in row] for row in self.rounds])
        return [rim for rim in rims if angle in rim][0]

    def hang_together(self, without):
        """Whether the places hang together without an arrow."""
        part = list(range(len(self.rounds)))
        for name in self.names:
            if name != without:
                one, other = part[self.place_of((name, 0))], part[self.place_of((name, 1))]
                part = [one if number == other else number for number in part]
        return len(set(part)) == 1

    def put(self, angle, other, price):
        """A new arrow."""
        # The attribute outer tells the least angle of the outer rim: that one stays in it.
        self.outer = self.half(self.parts()[3])
        name = self.fresh
        self.fresh += 1
        out, come = (name, 0), (name, 1)
        for before, half in ((self.half(angle), out), (out if angle == other else self.half(other), come)):
            row = self.rounds[self.place_of(before)]
            row.insert(row.index(before) + 1, half)
        self.names.append(name)
        self.tail_half[name], self.prices[name] = 0, price

    def strike(self, arrow):
        """One arrow less."""
        name = self.names[arrow]
        if self.outer[0] == name:
            beside = self.rim_of(2 * arrow) + self.rim_of(2 * arrow + 1)
            rest = [angle for angle in beside if angle // 2 != arrow]
            self.outer = self.half(rest[-1])
        self.names.remove(name)
        self.rounds = [[half for half in row if half[0] != name] for row in self.rounds]

    def turn(self, arrow):
        """An arrow turned: its halves stay where they are."""
        name = self.names[arrow]
        self.tail_half[name] = 1 - self.tail_half[name]

    def split(self, arrow):
        """A place on an arrow."""
        name, new = self.names[arrow], self.fresh
        self.fresh += 1
        head = (name, 1 - self.tail_half[name])
        self.rounds = [[(new, 1) if half == head else half for half in row] for row in self.rounds]
        if self.outer == head:
            self.outer = (new, 1)
        self.rounds.append([(new, 0), head])
        self.names.append(new)
        self.tail_half[new], self.prices[new] = 0, self.prices[name]

    def ask(self, arrow, price):
        """Another price."""
        self.prices[self.names[arrow]] = price

    def outside(self, angle):
        """Another outer rim."""
        self.outer = self.half(angle)
