"""bigcorners.desks: charts, books and a runner, led by lines [10.1, 10.2]."""

import random
import re
import unittest

from bigcorners.benches import Bench
from bigcorners.books import flow
from bigcorners.charts import tangled
from bigcorners.dealings import count_dealings
from bigcorners.desks import Desk
from bigcorners.errors import (
    Apart, BadBook, BadChart, BadText, ChartError, Full, NoArrow, NoContents, NoEnd, NoLine, NoName, NoNumber,
    NoPicture, NoPrice, NoRoutine, NoRunner, NothingDone, NotOneRim,
)
from bigcorners.pictures import picture
from bigcorners.prices import fates, price
from bigcorners.runners import Runner
from bigcorners.sketches import read_sketch, sketch
from bigcorners.sources import source, translated
from bigcorners.texts import chart_text, read_chart
from tests.growing import bought_of, side_by_side, spiked_ring
from tests.searching import spread_of, turned_in
from tests.things import a_path, a_ring, nested, odd_things, random_charts
from tests.writing import random_books, the_book

RING = chart_text(a_ring()).replace("\n", ";")
PATH = chart_text(a_path()).replace("\n", ";")
BOOK = source(the_book()).replace("\n", ";")
# The chart of the example e08, whose place 1 is tangled.
TANGLED = (
    "places 4;arrow 0 1 1;arrow 1 2 1;arrow 0 1 1;arrow 1 3 1;round 0 4;round 1 2 5 6;round 3;round 7;outer 0;"
)
NAME, K, PRICE = "([a-z]{1,8})", "(0|[1-9][0-9]{0,8})", "(never|0|[1-9][0-9]{0,8})"
Z = "(?:0|-?[1-9][0-9]{0,8})"
PATTERNS = {
    "chart": NAME + " ([^\n]+)", "book": NAME + " ([^\n]+)", "flow": " ".join((NAME, K, NAME)),
    "put": " ".join((NAME, K, K, PRICE)), "strike": NAME + " " + K, "turn": NAME + " " + K, "split": NAME + " " + K,
    "ask": " ".join((NAME, K, PRICE)), "outside": NAME + " " + K, "start": NAME + "((?: " + Z + ")+)", "step": K,
    "undo": "", "price": NAME, "fates": NAME, "dealings": NAME, "show": NAME, "text": NAME, "source": NAME,
    "where": "", "holds": "", "said": "",
}
KEPT = ("chart", "book", "flow", "put", "strike", "turn", "split", "ask", "outside", "start", "step")


def price_of(word):
    """The price that a word tells."""
    return None if word == "never" else int(word)


class Second:
    """A second desk: it keeps all that was ahead of each line."""

    def __init__(self):
        self.state = ({}, {}, None)
        self.ahead = []

    def named(self, which, name):
        """What is kept under a name."""
        if name not in self.state[which]:
            raise NoName(name)
        return self.state[which][name]

    def kept(self, which, name, thing):
        """A state with one thing more."""
        changed = [dict(self.state[0]), dict(self.state[1]), self.state[2]]
        changed[which][name] = thing
        return tuple(changed)

    def runner(self):
        """A runner like the one that was started."""
        if self.state[2] is None:
            raise NoRunner()
        return self.state[2].copy()

    def tell(self, line):
        """Does a line."""
        if not isinstance(line, str) or "\n" in line:
            raise NoLine()
        word = re.match("[a-z]*", line).group()
        found = re.fullmatch(word + (" " if PATTERNS.get(word) else "") + PATTERNS.get(word, ""), line)
        if word not in PATTERNS or not found:
            raise NoLine()
        if word == "undo":
            if not self.ahead:
                raise NothingDone()
            self.state = self.ahead.pop()
            return "ok"
        if word in KEPT:
            state, answer = self.change(word, found.groups())
            self.ahead.append(self.state)
            self.state = state
            return answer
        return self.answer(word, found.groups())

    def change(self, word, parts):
        """The state behind a line, and the answer."""
        if word == "chart":
            return self.kept(0, parts[0], read_chart(parts[1].replace(";", "\n"))), "ok"
        if word == "book":
            return self.kept(1, parts[0], translated(parts[1].replace(";", "\n"))), "ok"
        if word == "flow":
            return self.kept(0, parts[2], flow(self.named(1, parts[0]), int(parts[1]))), "ok"
        if word == "start":
            runner = Runner(self.named(1, parts[0]), tuple(int(one) for one in parts[1].split()))
            return self.state[:2] + (runner,), "ok"
        if word == "step":
            runner = self.runner()
            done = runner.go(int(parts[0]))
            return self.state[:2] + (runner,), str(done)
        bench = Bench(self.named(0, parts[0]))
        numbers = [int(one) for one in (parts[1:-1] if word in ("put", "ask") else parts[1:])]
        if word in ("put", "ask"):
            numbers.append(price_of(parts[-1]))
        getattr(bench, word)(*numbers)
        return self.kept(0, parts[0], bench.chart()), "ok"

    def answer(self, word, parts):
        """The answer of a line that changes nothing."""
        if word in ("price", "fates", "dealings", "show"):
            chart = self.named(0, parts[0])
            if tangled(chart) is not None:
                return "tangled " + str(tangled(chart))
            if word == "dealings":
                return str(count_dealings(chart))
            if price(chart) is None:
                return "none"
            if word == "show":
                return sketch(chart, picture(chart)).replace("\n", ";")
            return str(price(chart)) if word == "price" else " ".join(fates(chart))
        if word == "text":
            return chart_text(self.named(0, parts[0])).replace("\n", ";")
        if word == "source":
            return source(self.named(1, parts[0])).replace("\n", ";")
        runner = self.runner()
        if word == "where":
            return " ".join(str(pair[0]) + ":" + str(pair[1]) for pair in runner.where()) or "over"
        return " ".join(str(one) for one in (runner.contents() if word == "holds" else runner.said())) or "none"


def outcome(desk, line):
    """The answer of a desk, or its error."""
    try:
        return desk.tell(line)
    except ChartError as error:
        return type(error), vars(error)


def random_line(rng, charts, books):
    """A line, mostly right."""
    word = rng.choice(list(PATTERNS) + ["undo", "step", "put", "start", "split", "flow", "chart", "book"])
    name, other = rng.choice("abc"), rng.choice("abc")
    if word == "chart":
        text = rng.choice(charts) if rng.random() < 0.9 else rng.choice((";", "places 2;", RING + "x", " " + RING))
        return word + " " + name + " " + text
    if word == "book":
        text = rng.choice(books) if rng.random() < 0.9 else rng.choice((";", "cells 2;", BOOK + "x", "cells 1;routine"))
        return word + " " + name + " " + text
    numbers = [rng.choice((rng.randrange(6), rng.randrange(14))) for _ in range(2)]
    cost = rng.choice(("never", "1", "3", "1000", "0", "1001"))
    return {
        "flow": "flow {0} {2} {1}", "put": "put {0} {2} {3} {4}", "ask": "ask {0} {2} {4}", "start": "start {0} {5}",
        "step": "step {6}", "undo": "undo", "where": "where", "holds": "holds", "said": "said",
        "strike": "strike {0} {2}", "turn": "turn {0} {2}", "split": "split {0} {2}", "outside": "outside {0} {2}",
    }.get(word, word + " {0}").format(
        name, other, numbers[0], numbers[1], cost,
        " ".join(str(rng.randint(-3, 9)) for _ in range(rng.choice((1, 1, 2, 3, 4)))),
        rng.choice((0, 1, 2, 7, 50, 5001)),
    )


class LinesTest(unittest.TestCase):
    def same(self, desk, second, line):
        expected = outcome(second, line)
        self.assertEqual(outcome(desk, line), expected, line)
        self.assertEqual(desk.undoable(), len(second.ahead))
        return expected

    def all_told(self, desk):
        """All that a desk tells without being changed."""
        words = ("price", "fates", "dealings", "text", "source", "show")
        lines = [word + " " + name for word in words for name in "abc"] + ["where", "holds", "said"]
        return [outcome(desk, line) for line in lines]

    def test_drawn_lines(self):
        rng = random.Random(101)
        charts = [chart_text(chart).replace("\n", ";") for chart in random_charts(101, 25, 5)] + [RING, PATH, TANGLED]
        books = [source(book).replace("\n", ";") for book in random_books(102, 25)] + [BOOK]
        seen = {}
        for _ in range(25):
            desk, second = Desk(), Second()
            for at in range(80):
                line = random_line(rng, charts, books)
                told = self.same(desk, second, line)
                key = (line.split(" ")[0], isinstance(told, str))
                seen[key] = seen.get(key, 0) + 1
                if at % 20 == 0:
                    self.assertEqual(self.all_told(desk), self.all_told(second))
            while second.ahead:
                self.same(desk, second, "undo")
                if len(second.ahead) % 7 == 0:
                    self.assertEqual(self.all_told(desk), self.all_told(second))
            self.assertEqual(self.all_told(desk), self.all_told(Desk()))
            self.assertEqual(outcome(desk, "undo"), (NothingDone, {}))
        for word in PATTERNS:
            self.assertGreater(seen[(word, True)], 3)


class FormsTest(unittest.TestCase):
    def setUp(self):
        self.desk = Desk()

    def told(self, *lines):
        """The answers."""
        return [self.desk.tell(line) for line in lines]

    def test_charts(self):
        self.assertEqual(self.told("chart ring " + RING, "price ring", "fates ring", "dealings ring", "text ring"),
                         ["ok", "1", "always never", "0", RING])
        shown = self.desk.tell("show ring")
        chart, _ = read_sketch(shown.replace(";", "\n"))
        self.assertEqual((chart, shown.endswith(";")), (a_ring(0, (1, 1)), True))
        self.assertEqual(shown.replace(";", "\n"), sketch(a_ring(), picture(a_ring())))

    def test_none(self):
        text = RING.replace("0 1 1;", "0 1 never;").replace("1 0 5;", "1 0 never;")
        self.assertEqual(self.told("chart a " + text, "price a", "fates a", "show a", "dealings a", "text a"),
                         ["ok", "none", "none", "none", "0", text])

    def test_tangled(self):
        self.assertEqual(
            self.told("chart a " + TANGLED, "price a", "fates a", "dealings a", "show a", "text a"),
            ["ok"] + ["tangled 1"] * 4 + [TANGLED],
        )

    def test_changes(self):
        self.assertEqual(self.told("chart a " + PATH, "put a 0 1 never", "text a"),
                         ["ok", "ok", "places 2;arrow 0 1 1;arrow 0 1 never;round 0 2;round 1 3;outer 0;"])
        self.assertEqual(self.told("strike a 0", "text a"), ["ok", PATH.replace("0 1 1;", "0 1 never;")])
        self.assertEqual(self.told("ask a 0 77", "text a"), ["ok", PATH.replace("0 1 1;", "0 1 77;")])
        self.assertEqual(self.told("turn a 0", "text a"), ["ok", "places 2;arrow 1 0 77;round 1;round 0;outer 0;"])
        self.assertEqual(self.told("split a 0", "price a"), ["ok", "0"])
        self.told("chart a " + RING, "outside a 3")
        self.assertEqual(self.told("text a"), [RING.replace("outer 0", "outer 1")])
        self.assertEqual(self.desk.undoable(), 8)

    def test_books_and_runners(self):
        self.assertEqual(self.told("book b " + BOOK, "source b", "flow b 0 f", "price f"), ["ok", BOOK, "ok", "1"])
        self.assertEqual(self.told("start b 2", "where", "holds", "said"), ["ok", "0:0", "2", "none"])
        self.assertEqual(self.told("step 3", "where", "holds", "said"), ["3", "0:3", "2", "2"])
        self.assertEqual(self.told("step 100", "where", "holds", "said", "step 5"), ["6", "over", "0", "2 1", "0"])
        self.assertEqual(self.told("undo", "undo", "where", "said"), ["ok", "ok", "0:3", "2"])
        self.assertEqual(self.told("undo", "where"), ["ok", "0:0"])

    def test_several_cells_and_open_routines(self):
        self.told("book b cells 3;routine;call 1;routine;say c0-c2;set 1 -c1;call 0;", "start b 7 -8 999999999")
        self.assertEqual(self.told("step 4", "where", "holds"), ["4", "0:1 1:2", "7 -8 999999999"])
        self.assertEqual(self.told("said"), ["-999999992"])
        self.assertEqual(self.told("step 1", "holds", "step 1", "where"), ["1", "7 8 999999999", "1", "0:1 1:3 0:0"])
        self.assertEqual(self.told("step 5000", "step 5000")[1], "0")
        self.assertEqual(len(self.desk.tell("where").split(" ")), 20)

    def test_a_chart_and_a_book_of_one_name(self):
        self.assertEqual(self.told("chart a " + RING, "book a " + BOOK, "text a", "source a", "flow a 0 a", "source a"),
                         ["ok", "ok", RING, BOOK, "ok", BOOK])
        self.assertEqual(self.told("price a", "undo", "text a", "undo"), ["1", "ok", RING, "ok"])
        self.assertEqual(outcome(self.desk, "source a"), (NoName, {"name": "a"}))
        self.assertEqual(self.told("text a", "undo"), [RING, "ok"])
        self.assertEqual(outcome(self.desk, "text a"), (NoName, {"name": "a"}))

    def test_elder_ones_are_brought_back(self):
        self.told("chart a " + RING, "chart a " + PATH)
        self.assertEqual(self.told("text a", "undo", "text a"), [PATH, "ok", RING])
        other = "cells 2;routine;"
        self.assertEqual(self.told("book a " + BOOK, "book a " + other, "source a", "undo", "source a"),
                         ["ok", "ok", other, "ok", BOOK])

    def test_a_runner_started_anew_and_brought_back(self):
        self.told("book a " + BOOK, "start a 5", "step 4", "start a 9", "step 6")
        self.assertEqual(self.told("said", "where"), ["9 8", "0:3"])
        self.assertEqual(self.told("undo", "where"), ["ok", "0:0"])
        self.assertEqual(self.told("undo", "where", "said", "holds"), ["ok", "0:1", "5", "4"])
        self.assertEqual(self.told("step 1", "where"), ["1", "0:2"])
        self.assertEqual(self.told("undo", "undo", "where", "undo"), ["ok", "ok", "0:0", "ok"])
        self.assertEqual(outcome(self.desk, "where"), (NoRunner, {}))
        self.assertEqual(self.desk.undoable(), 1)

    def test_a_runner_keeps_its_book(self):
        self.told("book a " + BOOK, "start a 2", "book a cells 1;routine;say 7;")
        self.assertEqual(self.told("step 99", "said", "undo", "undo", "undo"), ["9", "2 1", "ok", "ok", "ok"])

    def test_steps(self):
        self.told("book a cells 1;routine;while 0 = 0;end;", "start a 1")
        self.assertEqual(self.told("step 0", "step 5000", "step 4999", "where"), ["0", "5000", "4999", "0:1"])
        self.assertEqual(self.desk.undoable(), 5)
        self.assertEqual(self.told("undo", "undo", "where", "undo", "where"), ["ok", "ok", "0:0", "ok", "0:0"])

    def test_what_tells_only_is_not_taken_back(self):
        self.told("chart a " + RING, "book a " + BOOK, "start a 1", "price a", "fates a", "dealings a", "show a",
                  "text a", "source a", "where", "holds", "said")
        self.assertEqual(self.desk.undoable(), 3)
        self.assertEqual(self.told("undo", "undo", "undo"), ["ok"] * 3)
        self.assertEqual(self.desk.undoable(), 0)
        self.assertEqual(outcome(self.desk, "undo"), (NothingDone, {}))

    def test_undo_of_each_kind_of_line(self):
        lines = (
            "chart a " + PATH, "book a " + BOOK, "flow a 0 b", "put a 0 1 3", "strike a 1", "turn a 0", "split a 0",
            "ask a 0 9", "outside a 0", "start a 4", "step 5",
        )
        states = []
        tells = ("text a", "text b", "source a", "where", "holds", "said")
        for line in lines:
            states.append([outcome(self.desk, tell) for tell in tells])
            self.desk.tell(line)
        for at in range(len(lines) - 1, -1, -1):
            self.assertEqual(self.desk.undoable(), at + 1)
            self.assertEqual(self.desk.tell("undo"), "ok")
            self.assertEqual([outcome(self.desk, tell) for tell in tells], states[at])

    def test_desks_are_apart(self):
        other = Desk()
        self.desk.tell("chart a " + RING)
        self.assertEqual(outcome(other, "text a"), (NoName, {"name": "a"}))
        self.assertEqual((self.desk.undoable(), other.undoable()), (1, 0))
        for thing in odd_things():
            self.assertIs(self.desk == thing, False)

    def test_texts_with_line_feeds_told_by_semicolons_alone(self):
        self.assertEqual(outcome(self.desk, "chart a  " + RING), (BadText, {"line": 1}))
        self.assertEqual(outcome(self.desk, "chart a " + RING + " "), (BadText, {"line": 7}))
        self.assertEqual(outcome(self.desk, "chart a  "), (BadText, {"line": 1}))
        self.assertEqual(outcome(self.desk, "book a ;"), (BadText, {"line": 1}))
        self.assertEqual(outcome(self.desk, "book a cells 1;;"), (BadText, {"line": 2}))
        self.assertEqual(self.desk.undoable(), 0)


class ErrorsTest(unittest.TestCase):
    def setUp(self):
        self.desk = Desk()
        for line in ("chart a " + RING, "book b " + BOOK, "start b 3", "step 4"):
            self.desk.tell(line)

    def state(self):
        """What is kept, and what can be taken back."""
        lines = ("text a", "source b", "where", "holds", "said")
        return [outcome(self.desk, line) for line in lines] + [self.desk.undoable()]

    def refused(self, told, error, **fields):
        before = self.state()
        with self.assertRaises(error) as caught:
            self.desk.tell(told)
        self.assertEqual((type(caught.exception), vars(caught.exception)), (error, fields), told)
        self.assertEqual(self.state(), before)

    def test_no_line_for_odd_things(self):
        for thing in odd_things() + [0, 1, (), ("undo",), ["undo"], b"undo", nested(39, "undo"), 10 ** 19]:
            self.refused(thing, NoLine)

    def test_no_line_for_what_has_no_form(self):
        wrong = [
            "", " ", "  ", "x", "ok", "none", "redo", "undo ", " undo", "undo a", "undo 1", "UNDO", "Undo", "un do",
            "undo\n", "\n", "chart", "chart ", "chart a", "chart a ", "chart  " + RING, "chart A " + RING,
            "chart a1 " + RING, "chart abcdefghi " + RING, "chart a\n" + RING, "chart a " + RING + "\n",
            "chart a " + RING.replace(";", "\n"), " chart a " + RING, "chart -a " + RING, "chart 1 " + RING,
            "Chart a " + RING, "book", "book b", "book b ", "book  b", "book B " + BOOK, "book abcdefghi " + BOOK,
            "book b\t" + BOOK, "flow", "flow b", "flow b 0", "flow b 0 ", "flow b 0 A", "flow b 0 a a", "flow b a 0",
            "flow b 00 a", "flow b -1 a", "flow b +0 a", "flow b 1234567890 a", "flow  b 0 a", "flow b  0 a",
            "flow b 0  a", "flow b 0 a ", "flow b 0 abcdefghi", "flow B 0 a", "put a", "put a 0", "put a 0 0",
            "put a 0 0 1 1", "put a 0 0 none", "put a 0 0 -1", "put a 0 0 01", "put a 0 0 1234567890",
            "put a never 0 1", "put a 0 never 1", "put a -1 0 1", "put a 0 +1 1", "put a 0 0 Never", "put a 0 0 1 ",
            "put a 0  0 1", "put  a 0 0 1", "strike", "strike a", "strike a 0 0", "strike a -1", "strike a 00",
            "strike a b", "strike a 0 ", "strike 0", "strike a 1234567890", "turn a", "turn a 01", "turn a 0 1",
            "turn a never", "turn", "split a", "split a 0 0", "split a x", "split", "ask a", "ask a 0", "ask a 0 1 1",
            "ask a 0 -1", "ask a never 1", "ask a 0 nevers", "ask a 00 1", "ask", "outside", "outside a",
            "outside a 0 0", "outside a -0", "outside a never", "start", "start b", "start b ", "start b -0",
            "start b 00", "start b +1", "start b 1 ", "start b  1", "start b 1  2", "start b --1", "start b 1-",
            "start b -", "start b x", "start b 1234567890", "start b -1234567890", "start b -01", "start b 1 -0",
            "start b never", "start 1", "start B 1", "start abcdefghi 1", "step", "step ", "step a", "step 0 0",
            "step -1", "step 01", "step +1", "step 1 ", "step  1", "step 1234567890", "step never", "price", "price ",
            "price A", "price a a", "price a ", " price a", "price  a", "price a1", "price abcdefghi", "price 1",
            "fates", "fates a b", "fates ", "dealings", "dealings a 0", "dealings  a", "show", "show a 0", "show a;",
            "text", "text a a", "texts a", "source", "source b b", "source B", "where a", "where ", "where  ",
            "Where", "holds 0", "holds ", "said b", "said ", " said", "word", "breaks", "back", "go 1", "a", "0", ";",
            "chart;a;" + RING, "copy", "deeds", "runner", "step 1;", "undo;", "x" * 20000,
        ]
        for line in wrong:
            self.refused(line, NoLine)
            # So it is on an empty desk: the form is asked first of all.
            with self.assertRaises(NoLine):
                Desk().tell(line)

    def test_names_of_one_to_eight_letters(self):
        for name in ("a", "z", "abcdefgh", "zzzzzzzz", "never", "chart", "undo"):
            self.assertEqual(self.desk.tell("chart " + name + " " + PATH), "ok")
            self.assertEqual(self.desk.tell("text " + name), PATH)
            self.assertEqual(self.desk.tell("flow b 0 " + name), "ok")
            self.assertEqual(self.desk.tell("price " + name), "1")

    def test_numbers_of_nine_figures(self):
        self.refused("put a 999999999 0 1", NoEnd)
        self.refused("strike a 999999999", NoArrow)
        self.refused("ask a 0 999999999", NoPrice)
        self.refused("flow b 999999999 f", NoRoutine)
        self.refused("step 999999999", NoNumber)
        self.assertEqual(self.desk.tell("start b -999999999"), "ok")
        self.assertEqual(self.desk.tell("holds"), "-999999999")
        self.assertEqual(self.desk.tell("start b 999999999"), "ok")

    def test_no_name(self):
        for line in (
            "flow a 0 f", "flow f 9 a", "flow a 0 a", "put b 0 1 1", "put b 99 1 0", "strike b 0", "turn b 9",
            "split b 0", "ask b 0 1", "outside b 0", "start a 1", "start a 1 2 3 4 5 6", "price b", "fates b",
            "dealings b", "show b", "text b", "source a",
        ):
            self.refused(line, NoName, name=line.split(" ")[1])
            self.refused(line.replace(" " + line.split(" ")[1], " zz", 1), NoName, name="zz")

    def test_no_runner(self):
        self.desk = Desk()
        self.desk.tell("book b " + BOOK)
        for line in ("step 1", "step 0", "step 999999999", "where", "holds", "said"):
            self.refused(line, NoRunner)
        self.desk.tell("start b 1")
        self.desk.tell("undo")
        for line in ("step 1", "where", "holds", "said"):
            self.refused(line, NoRunner)

    def test_what_the_functions_raise(self):
        for text, line in (
            (";", 1), ("places 2;", 2), (RING[:-1], 6), (RING + ";", 7), ("x", 1), (RING.replace("0 3", "00 3"), 4),
        ):
            self.refused("chart a " + text, BadText, line=line)
        self.refused("chart c " + RING.replace("places 2", "places 1"), BadChart, part=("arrow", 0))
        self.refused("chart c " + RING.replace("0 1 1;", "0 1 0;"), BadChart, part=("prices",))
        for text, line in ((";", 1), ("cells 1;x;", 2), (BOOK[:-1], 6), (BOOK + "end;", 7)):
            self.refused("book b " + text, BadText, line=line)
        self.refused("book b cells 1;", BadBook, part=("routines",))
        self.refused("book c cells 1;routine;call 1;", BadBook, part=("routine", 0))
        self.refused("flow b 1 a", NoRoutine)
        for line, error in (
            ("put a 4 0 1", NoEnd), ("put a 0 4 0", NoEnd), ("put a 0 1 0", NotOneRim), ("put a 0 2 0", NoPrice),
            ("put a 0 2 1001", NoPrice), ("strike a 2", NoArrow), ("turn a 2", NoArrow), ("split a 2", NoArrow),
            ("ask a 2 0", NoArrow), ("ask a 0 0", NoPrice), ("outside a 4", NoEnd), ("step 5001", NoNumber),
            ("start b 1 2", NoContents), ("start b 1 2 3 4 5", NoContents),
        ):
            self.refused(line, error)
        self.desk.tell("chart a " + PATH)
        self.refused("strike a 0", Apart)
        self.desk.tell("chart a " + chart_text(side_by_side((1,) * 80)).replace("\n", ";"))
        self.refused("put a 0 0 1", Full)
        self.refused("split a 0", Full)

    def test_pictures_too_large_for_a_sketch(self):
        # All that turns comes over one arrow, and so over each of the arrows beside it.
        chart = spiked_ring(random.Random(103), 10, 5)
        bench, arrow = Bench(chart), bought_of(chart)
        seen = []
        for _ in range(20):
            row = bench.chart().rounds[bench.chart().arrows[arrow][1]]
            bench.put(2 * arrow, row[row.index(2 * arrow + 1) - 1], 5)
            arrow = len(bench.chart().arrows) - 1
            self.desk.tell("chart a " + chart_text(bench.chart()).replace("\n", ";"))
            made = picture(bench.chart())
            if max(spread_of(made)) <= 400:
                seen.append(True)
                self.assertEqual(self.desk.tell("show a"), sketch(bench.chart(), made).replace("\n", ";"))
            else:
                seen.append(False)
                self.refused("show a", NoPicture)
            # Up to 150 turnings a picture is small enough.
            self.assertTrue(seen[-1] or sum(turned_in(made)) > 150)
        self.assertEqual((seen[0], seen[-1]), (True, False))

    def test_an_undo_behind_refused_lines(self):
        for line in ("strike a 9", "chart a x", "book b x", "start b 1 2", "step 5001", "flow b 7 a", "price zz", "x"):
            with self.assertRaises(ChartError):
                self.desk.tell(line)
        self.assertEqual(self.desk.undoable(), 4)
        self.assertEqual(self.desk.tell("undo"), "ok")
        self.assertEqual(self.desk.tell("where"), "0:0")

    def test_answers_given_twice(self):
        for line in ("text a", "price a", "fates a", "dealings a", "show a", "source b", "where", "holds", "said"):
            self.assertEqual(self.desk.tell(line), self.desk.tell(line))
            self.assertIs(type(self.desk.tell(line)), str)
