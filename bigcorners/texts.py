"""Texts of charts, and numbers as they are told in texts."""

from bigcorners.charts import Chart
from bigcorners.errors import BadText

FIGURES = "0123456789"
MOST_FIGURES = 9
# Which lines may stand behind a line that begins with this word, "" at the front.
LINES_BEHIND = {
    "": ("places",),
    "places": ("arrow", "round", "outer"),
    "arrow": ("arrow", "round", "outer"),
    "round": ("round", "outer"),
    "outer": (),
}


def is_number(word):
    """Whether a word is a number as it is read: 1 to 9 figures, no needless zeros."""
    if not 1 <= len(word) <= MOST_FIGURES or not all([sign in FIGURES for sign in word]):
        return False
    return word == "0" or word[0] != "0"


def is_price_word(word):
    """Whether a word is a number, or tells that an arrow can't be bought."""
    return word == "never" or is_number(word)


def price_in(word):
    """The price that such a word tells."""
    if word == "never":
        return None
    return int(word)


def chart_text(chart):
    """A chart as a text."""
    lines = [f"places {chart.places}"]
    for (tail, head), price in zip(chart.arrows, chart.prices):
        told = "never" if price is None else str(price)
        lines.append(f"arrow {tail} {head} {told}")
    for row in chart.rounds:
        lines.append(" ".join(["round"] + [str(end) for end in row]))
    lines.append(f"outer {chart.outer}")
    return "".join([line + "\n" for line in lines])


def read_chart(text):
    """The chart that a text tells."""
    if not isinstance(text, str):
        raise BadText(0)
    lines = text.split("\n")
    behind = lines.pop()
    last = ""
    rows = {"places": [], "arrow": [], "round": [], "outer": []}
    for number, line in enumerate(lines, start=1):
        words = line.split(" ")
        if words[0] not in LINES_BEHIND[last] or not has_form(words):
            raise BadText(number)
        last = words[0]
        rows[last].append(words[1:])
    if behind != "" or last != "outer":
        raise BadText(len(lines) + 1)
    return chart_of(rows)


def has_form(words):
    """Whether words, of which the first one begins a line, make a line."""
    if words[0] == "round":
        return all([is_number(word) for word in words[1:]])
    if words[0] == "arrow":
        return len(words) == 4 and is_number(words[1]) and is_number(words[2]) and is_price_word(words[3])
    return len(words) == 2 and is_number(words[1])


def chart_of(rows):
    """The chart that lines tell: for each word, the rows of words behind it."""
    arrows = tuple([(int(tail), int(head)) for tail, head, _ in rows["arrow"]])
    rounds = tuple([tuple([int(word) for word in row]) for row in rows["round"]])
    prices = tuple([price_in(price) for _, _, price in rows["arrow"]])
    return Chart(int(rows["places"][0][0]), arrows, rounds, int(rows["outer"][0][0]), prices)
