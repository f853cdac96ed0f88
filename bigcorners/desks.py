"""A desk: charts and books under names, and a runner, all led by lines."""

from bigcorners.benches import Bench
from bigcorners.books import flow
from bigcorners.charts import tangled
from bigcorners.dealings import count_dealings
from bigcorners.errors import NoLine, NoName, NoRunner, NothingDone
from bigcorners.pictures import picture
from bigcorners.prices import fates, price
from bigcorners.runners import Runner
from bigcorners.sketches import sketch
from bigcorners.sources import source, translated
from bigcorners.texts import chart_text, is_number, is_price_word, price_in, read_chart

LETTERS = "abcdefghijklmnopqrstuvwxyz"
MOST_LETTERS = 8
# For the first word of a line, of which forms the others are.
FORMS = {
    "flow": ("name", "number", "name"),
    "put": ("name", "number", "number", "price"),
    "strike": ("name", "number"),
    "turn": ("name", "number"),
    "split": ("name", "number"),
    "ask": ("name", "number", "price"),
    "outside": ("name", "number"),
    "step": ("number",),
    "undo": (),
    "price": ("name",),
    "fates": ("name",),
    "dealings": ("name",),
    "show": ("name",),
    "text": ("name",),
    "source": ("name",),
    "where": (),
    "holds": (),
    "said": (),
}


class Desk:
    """Keeps charts, books and a runner, and works by lines [10.1]."""

    def __init__(self):
        self.charts = {}
        self.books = {}
        self.runner = None
        # For each line that can be taken back, what is to be brought back: (kind, name, what was kept under it),
        # ("runner", "", the elder one) or ("step", "", how many steps were done).
        self.past = []

    def tell(self, line):
        """Does a line, and returns its answer."""
        words = words_of(line)
        action = ACTIONS[words[0]]
        return action(self, words)

    def undoable(self):
        """How many lines can be taken back."""
        return len(self.past)

    def chart_named(self, name):
        """The chart under a name."""
        if name not in self.charts:
            raise NoName(name)
        return self.charts[name]

    def book_named(self, name):
        """The book under a name."""
        if name not in self.books:
            raise NoName(name)
        return self.books[name]

    def started(self):
        """The runner."""
        if self.runner is None:
            raise NoRunner()
        return self.runner

    def keep_chart(self, name, chart):
        """From now on this chart is the one under a name."""
        self.past.append(("chart", name, self.charts.get(name)))
        self.charts[name] = chart

    def keep_book(self, name, book):
        """From now on this book is the one under a name."""
        self.past.append(("book", name, self.books.get(name)))
        self.books[name] = book

    def keep_runner(self, runner):
        """From now on this runner is the one."""
        self.past.append(("runner", "", self.runner))
        self.runner = runner

    def go(self, most):
        """Leads the runner on; returns how many steps were done."""
        done = self.started().go(most)
        self.past.append(("step", "", done))
        return done

    def undo(self):
        """Takes back the last line that can be taken back."""
        if not self.past:
            raise NothingDone()
        kind, name, elder = self.past.pop()
        if kind == "chart":
            bring_back(self.charts, name, elder)
        elif kind == "book":
            bring_back(self.books, name, elder)
        elif kind == "runner":
            self.runner = elder
        else:
            for _ in range(elder):
                self.runner.back()


def bring_back(kept, name, elder):
    """What was kept under a name is kept there again; None if there was nothing."""
    if elder is None:
        del kept[name]
    else:
        kept[name] = elder


def words_of(line):
    """The words of a line. Where a TEXT stands, it is the last of three."""
    if not isinstance(line, str) or "\n" in line:
        raise NoLine()
    words = line.split(" ")
    if words[0] in ("chart", "book"):
        name, _, text = line[len(words[0]) + 1:].partition(" ")
        if is_name(name) and text != "":
            return [words[0], name, text]
    elif words[0] == "start":
        if len(words) > 2 and is_name(words[1]) and all([is_integer(word) for word in words[2:]]):
            return words
    elif words[0] in FORMS and have_forms(words[1:], FORMS[words[0]]):
        return words
    raise NoLine()


def have_forms(words, forms):
    """Whether words are of these forms, one by one."""
    return len(words) == len(forms) and all([has_form(word, form) for word, form in zip(words, forms)])


def has_form(word, form):
    """Whether a word is a "name", a "number" or a "price"."""
    if form == "name":
        return is_name(word)
    if form == "number":
        return is_number(word)
    return is_price_word(word)


def is_name(word):
    """Whether a word can be a NAME."""
    return 1 <= len(word) <= MOST_LETTERS and all([sign in LETTERS for sign in word])


def is_integer(word):
    """Whether a word is an integer as it is read."""
    if word.startswith("-"):
        return is_number(word[1:]) and word != "-0"
    return is_number(word)


def do_chart(desk, words):
    """Keeps a chart under a name."""
    desk.keep_chart(words[1], read_chart(words[2].replace(";", "\n")))
    return "ok"


def do_book(desk, words):
    """Keeps a book under a name."""
    desk.keep_book(words[1], translated(words[2].replace(";", "\n")))
    return "ok"


def do_flow(desk, words):
    """Keeps the flow of a routine as a chart."""
    desk.keep_chart(words[3], flow(desk.book_named(words[1]), int(words[2])))
    return "ok"


def do_change(desk, words):
    """Changes a chart as a Bench does."""
    bench = Bench(desk.chart_named(words[1]))
    number = int(words[2])
    if words[0] == "put":
        bench.put(number, int(words[3]), price_in(words[4]))
    elif words[0] == "strike":
        bench.strike(number)
    elif words[0] == "turn":
        bench.turn(number)
    elif words[0] == "split":
        bench.split(number)
    elif words[0] == "ask":
        bench.ask(number, price_in(words[3]))
    else:
        bench.outside(number)
    desk.keep_chart(words[1], bench.chart())
    return "ok"


def do_start(desk, words):
    """Starts a runner."""
    desk.keep_runner(Runner(desk.book_named(words[1]), tuple([int(word) for word in words[2:]])))
    return "ok"


def do_step(desk, words):
    """Leads the runner on, and tells how many steps were done."""
    return str(desk.go(int(words[1])))


def do_undo(desk, _):
    """Takes a line back."""
    desk.undo()
    return "ok"


def tell_of_chart(desk, words):
    """Tells of a chart what can't be told of a tangled one."""
    chart = desk.chart_named(words[1])
    place = tangled(chart)
    if place is not None:
        return f"tangled {place}"
    if words[0] == "price":
        told = price(chart)
    elif words[0] == "fates":
        told = fates(chart)
    elif words[0] == "dealings":
        told = count_dealings(chart)
    else:
        told = picture(chart)
    if told is None:
        return "none"
    if words[0] == "fates":
        return " ".join(told)
    if words[0] == "show":
        return sketch(chart, told).replace("\n", ";")
    return str(told)


def tell_text(desk, words):
    """Tells a chart as a text."""
    return chart_text(desk.chart_named(words[1])).replace("\n", ";")


def tell_source(desk, words):
    """Tells a book as a text."""
    return source(desk.book_named(words[1])).replace("\n", ";")


def tell_where(desk, _):
    """Tells where the runner stands."""
    pairs = desk.started().where()
    if len(pairs) == 0:
        return "over"
    return " ".join([f"{routine}:{place}" for routine, place in pairs])


def tell_contents(desk, _):
    """Tells what the cells of the runner hold."""
    return " ".join([str(held) for held in desk.started().contents()])


def tell_said(desk, _):
    """Tells what the runner has said."""
    numbers = desk.started().said()
    if len(numbers) == 0:
        return "none"
    return " ".join([str(number) for number in numbers])


ACTIONS = {
    "chart": do_chart,
    "book": do_book,
    "flow": do_flow,
    "put": do_change,
    "strike": do_change,
    "turn": do_change,
    "split": do_change,
    "ask": do_change,
    "outside": do_change,
    "start": do_start,
    "step": do_step,
    "undo": do_undo,
    "price": tell_of_chart,
    "fates": tell_of_chart,
    "dealings": tell_of_chart,
    "show": tell_of_chart,
    "text": tell_text,
    "source": tell_source,
    "where": tell_where,
    "holds": tell_contents,
    "said": tell_said,
}
