"""A slow writing and a slow reading of sketches, which follow the words of the document sign by sign."""

import re

from bigcorners.charts import Chart, rims
from bigcorners.errors import BadChart
from tests.drawings import Rough
from tests.searching import parts_of
from tests.things import ends_around, outer_rim, tagged_bars, tagged_lines

SIGNS = "ABCDEFGHIJKLMNOPQRSTUVWXYZabcdefghijklmn"


def slow_sketch(chart, picture):
    """The sketch of a right picture: each sign by itself, heights and columns counted in halves."""
    bars, lines = tagged_bars(chart, picture), tagged_lines(chart, picture)
    top, bottom = max(bar[0] for _, bar in bars), min(bar[0] for _, bar in bars)
    left, right = min(bar[1] for _, bar in bars), max(bar[2] for _, bar in bars)
    text = ""
    for height in range(2 * top, 2 * bottom - 1, -1):
        row = ""
        for column in range(2 * left, 2 * right + 1):
            row += sign_at(bars, lines, height, column)
        while row.endswith(" "):
            row = row[:-1]
        text += row + "\n"
    return text


def sign_at(bars, lines, height, column):
    """The sign at a height and in a column, both counted in halves."""
    for tag, bar in bars:
        if height == 2 * bar[0] and 2 * bar[1] <= column <= 2 * bar[2]:
            return SIGNS[tag[1]] if tag[0] == "place" else "+"
    for _, _, at, (_, one), (_, other) in lines:
        if column == 2 * at and 2 * min(one[0], other[0]) < height < 2 * max(one[0], other[0]):
            return "|"
    return " "


def normal(chart, picture):
    """The chart and the picture that read_sketch tells of a right picture's sketch."""
    every, columns = parts_of(picture)
    left = min([bar[1] for bar in every] + columns)
    bottom = min(bar[0] for bar in every)

    def moved_bar(bar):
        return (bar[0] - bottom, bar[1] - left, bar[2] - left)

    order = sorted(
        range(len(chart.arrows)), key=lambda arrow: (chart.arrows[arrow][0], picture[1][arrow][0][0])
    )
    ways = []
    for arrow in order:
        columns, turns = picture[1][arrow]
        ways.append((tuple(column - left for column in columns), tuple(moved_bar(bar) for bar in turns)))
    new = {}
    for number, arrow in enumerate(order):
        new[2 * arrow] = 2 * number
        new[2 * arrow + 1] = 2 * number + 1
    renumbered = Chart(
        chart.places, tuple(chart.arrows[arrow] for arrow in order),
        tuple(tuple(new[end] for end in row) for row in chart.rounds), new[chart.outer], (1,) * len(order),
    )
    return renumbered, (tuple(moved_bar(bar) for bar in picture[0]), tuple(ways))


class NoSuch(Exception):
    """The text is no sketch."""


def need(condition):
    """Gives up unless a condition holds."""
    if not condition:
        raise NoSuch()


def slow_read(text):
    """The pair that a text is the sketch of, or None: each thing that a sketch must have is asked by itself."""
    try:
        return pair_of(text)
    except (NoSuch, BadChart):
        return None


def pair_of(text):
    """The same, or NoSuch or BadChart."""
    need(text.endswith("\n") and text != "\n")
    rows = text[:-1].split("\n")
    need(len(rows) % 2 == 1 and len(rows) <= 801)
    grid = {}
    for at, row in enumerate(rows):
        need(row == row.rstrip() and len(row) <= 801)
        for position, sign in enumerate(row):
            if sign != " ":
                grid[(len(rows) - 1 - at, position)] = sign
    places, turns = bars_of(rows)
    need(any(bar[0] == (len(rows) - 1) // 2 for bar in list(places.values()) + turns))
    need(any(bar[0] == 0 for bar in list(places.values()) + turns))
    need(any(bar[1] == 0 for bar in list(places.values()) + turns))
    need(sorted(places) == list(range(len(places))))
    bars = [places[place] for place in range(len(places))] + turns
    lines = lines_of(grid, bars)
    return paired(len(places), bars, lines)


def bars_of(rows):
    """The bars of places and those of turnings, told by the even rows."""
    places, turns = {}, []
    for at, row in enumerate(rows):
        height = len(rows) - 1 - at
        if height % 2 == 1:
            need(set(row) <= set(" |"))
        for found in re.finditer("[^ ]+", row):
            word, start = found.group(), found.start()
            need(start % 2 == 0 and len(word) % 2 == 1 and len(set(word)) == 1)
            bar = (height // 2, start // 2, (start + len(word) - 1) // 2)
            if word == "|":
                continue
            need(word[0] == "+" or word[0] in SIGNS)
            if word[0] == "+":
                turns.append(bar)
            else:
                need(SIGNS.index(word[0]) not in places)
                places[SIGNS.index(word[0])] = bar
    return places, turns


def lines_of(grid, bars):
    """The lines (column, lower bar, higher bar)."""
    over = {}
    for number, (height, left, right) in enumerate(bars):
        for position in range(2 * left, 2 * right + 1):
            over[(2 * height, position)] = number
    lines = []
    for (height, position), sign in grid.items():
        if sign == "|":
            need((height + 1, position) in grid and (height - 1, position) in grid)
            if height % 2 == 1 and (height - 1, position) in over:
                high = height
                while (high, position) not in over:
                    need((high, position) in grid)
                    high += 1
                lines.append((position // 2, over[(height - 1, position)], over[(high, position)]))
    return sorted(lines)


def paired(places, bars, lines):
    """The chart and the picture."""
    above = {bar: [line for line in lines if line[1] == bar] for bar in range(len(bars))}
    below = {bar: [line for line in lines if line[2] == bar] for bar in range(len(bars))}
    for bar in range(places, len(bars)):
        need((len(above[bar]), len(below[bar])) in ((0, 2), (2, 0)))
    used, arrows, ways = [], [], []
    for place in range(places):
        for line in above[place]:
            columns, turns, bar = [line[0]], [], line[2]
            used.append(line)
            while bar >= places:
                both = above[bar] + below[bar]
                line = both[1 - both.index(line)]
                used.append(line)
                columns.append(line[0])
                turns.append(bars[bar])
                bar = line[2] if line[1] == bar else line[1]
            need(len(columns) % 2 == 1 and len(turns) <= 200)
            arrows.append((place, bar))
            ways.append((tuple(columns), tuple(turns)))
    need(sorted(used) == lines)
    picture = (tuple(bars[:places]), tuple(ways))
    rounds = tuple(tuple(ends_around(Rough(arrows), picture, place)) for place in range(places))
    rough = Chart(places, tuple(arrows), rounds, 0, (1,) * len(arrows))
    outer = rims(rough)[outer_rim(rough, picture)][0]
    return Chart(places, tuple(arrows), rounds, outer, (1,) * len(arrows)), picture
