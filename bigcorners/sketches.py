"""Sketches: pictures written in signs, row by row, and read back."""

from bigcorners.charts import Chart
from bigcorners.errors import BadChart, BadText, NoPicture, NoSketch
from bigcorners.judging import all_bars, all_lines, ends_drawn, is_picture, outer_angle

MOST_APART = 400
# The signs of the places, by their numbers.
SIGNS = "ABCDEFGHIJKLMNOPQRSTUVWXYZabcdefghijklmn"


def sketch(chart, picture):
    """A right picture in signs."""
    if not is_picture(chart, picture):
        raise NoPicture()
    bars = all_bars(picture)
    top, bottom = max([bar[0] for bar in bars]), min([bar[0] for bar in bars])
    left, right = min([bar[1] for bar in bars]), max([bar[2] for bar in bars])
    if top - bottom > MOST_APART or right - left > MOST_APART:
        raise NoPicture()
    rows = [[" "] * (2 * (right - left) + 1) for _ in range(2 * (top - bottom) + 1)]
    for number, bar in enumerate(bars):
        sign = SIGNS[number] if number < chart.places else "+"
        row = rows[2 * (top - bar[0])]
        for at in range(2 * (bar[1] - left), 2 * (bar[2] - left) + 1):
            row[at] = sign
    for column, low, high in all_lines(chart, picture):
        for at in range(2 * (top - bars[high][0]) + 1, 2 * (top - bars[low][0])):
            rows[at][2 * (column - left)] = "|"
    return "".join(["".join(row).rstrip(" ") + "\n" for row in rows])


def read_sketch(text):
    """The chart and the picture of which a text is the sketch."""
    if not isinstance(text, str):
        raise BadText(0)
    # What is read is what the text tells if it is a sketch. Whether it is one, its own sketch tells.
    try:
        chart, picture = pair_in(text)
        again = sketch(chart, picture)
    except (BadChart, NoPicture):
        raise NoSketch() from None
    if again != text:
        raise NoSketch()
    return (chart, picture)


def pair_in(text):
    """The chart and the picture that a text would tell if it were a sketch."""
    field = Field(text.split("\n")[:-1])
    arrows = []
    ways = []
    for place in range(field.places):
        for column in sorted(field.above[place]):
            head, way = field.way_from(place, column)
            arrows.append((place, head))
            ways.append(way)
    picture = (tuple(field.bars[:field.places]), tuple(ways))
    rounds = tuple(ends_drawn(arrows, picture))
    prices = (1,) * len(arrows)
    # Only what makes a chart has at each place an end that may tell the outer rim.
    rough = Chart(field.places, tuple(arrows), rounds, 0, prices)
    return (Chart(rough.places, rough.arrows, rough.rounds, outer_angle(picture, rounds), prices), picture)


class Field:
    """The bars and lines that are found in rows of signs: bars of places, by their signs, and behind them the others.

    What can't be in a sketch is left out, or taken for something else.
    """

    def __init__(self, rows):
        self.rows = rows
        runs = [run for at in range(0, len(rows), 2) for run in runs_in(rows[at], (len(rows) - 1 - at) // 2)]
        of_places = {SIGNS.index(sign): bar for sign, bar in runs if sign in SIGNS}
        self.places = len(of_places)
        self.bars = [of_places[place] for place in sorted(of_places)] + [bar for sign, bar in runs if sign == "+"]
        # For each bar, the columns of the lines above it, each with the bar at which it ends; those below it likewise.
        self.above = [{} for bar in self.bars]
        self.below = [{} for bar in self.bars]
        self.find_lines()

    def find_lines(self):
        """Goes down from each bar in each of its columns."""
        over = {}
        for number, (height, left, right) in enumerate(self.bars):
            for column in range(left, right + 1):
                over[(height, column)] = number
        for high, (height, left, right) in enumerate(self.bars):
            for column in range(left, right + 1):
                down = self.length_below(height, column, over)
                low = over.get((height - down, column))
                if down > 0 and low is not None:
                    self.below[high][column] = low
                    self.above[low][column] = high

    def length_below(self, height, column, over):
        """How far a line leads down in a column from a bar of a height, to the next bar or to where it ends."""
        down = 0
        while self.passes(2 * (height - down) - 1, column):
            down += 1
            if (height - down, column) in over or not self.passes(2 * (height - down), column):
                break
        return down

    def passes(self, rows_up, column):
        """Whether a line passes in a column, in the row that is so many rows above the last one."""
        at = len(self.rows) - 1 - rows_up
        return at < len(self.rows) and self.rows[at][2 * column:2 * column + 1] == "|"

    def way_from(self, place, column):
        """The head and the way of the arrow that goes up from a place in a column."""
        columns = [column]
        turns = []
        bar = self.above[place][column]
        while bar >= self.places:
            # At a top the arrow goes on below the bar, at a bottom above it.
            leads = self.below[bar] if len(turns) % 2 == 0 else self.above[bar]
            others = [other for other in leads if other != columns[-1]]
            if len(others) != 1:
                raise NoSketch()
            turns.append(self.bars[bar])
            columns.append(others[0])
            bar = leads[others[0]]
        return (bar, (tuple(columns), tuple(turns)))


def runs_in(row, height):
    """The bars in a row, at a height, each with its sign: (sign, bar)."""
    runs = []
    begin = 0
    for at in range(1, len(row) + 1):
        if at == len(row) or row[at] != row[begin]:
            if row[begin] not in " |":
                runs.append((row[begin], (height, begin // 2, (at - 1) // 2)))
            begin = at
    return runs
