"""Books drawn at random, and slow writings and runs of them that follow the words of the document."""

import random

from bigcorners.books import Book

LEAVES = ("set", "say", "call")


def random_sum(rng, cells, small=False):
    """A SUM."""
    options = (0, 0, 0, 1, -1, 2) if small else (0, 0, 1, -1, 2, -7, 1000, -1000, 999)
    return tuple(rng.choice(options) for _ in range(cells)) + (rng.choice(options + (3, -3)),)


def random_test(rng, cells):
    """A TEST."""
    return (rng.choice(("less", "less", "same")), random_sum(rng, cells, True), random_sum(rng, cells, True))


def random_body(rng, cells, routines, room, deep, words):
    """A body of at most so many places and so deep, and how many it has."""
    statements, used = [], 0
    for _ in range(rng.choice((0, 1, 1, 2, 3, 4))):
        word = rng.choice(words)
        cost = {"if": 2, "while": 1}.get(word, 1)
        if used + cost > room or (word in ("if", "while") and deep < 2):
            continue
        used += cost
        small = rng.random() < 0.8
        if word == "set":
            statements.append(("set", rng.randrange(cells), random_sum(rng, cells, small)))
        elif word == "say":
            statements.append(("say", random_sum(rng, cells, small)))
        elif word == "call":
            statements.append(("call", rng.randrange(routines)))
        else:
            bodies = []
            for _ in range(2 if word == "if" else 1):
                body, many = random_body(rng, cells, routines, room - used, deep - 1, words)
                used += many
                bodies.append(body)
            statements.append((word, random_test(rng, cells), *bodies))
    return tuple(statements), used


def random_book(rng):
    """A book."""
    cells, routines = rng.randint(1, 4), rng.randint(1, 5)
    some = (LEAVES + ("if", "while"), ("set", "say", "if", "while"), ("say", "set", "while"), ("call", "if"))
    words = rng.choice(some)
    bodies = [
        random_body(rng, cells, routines, 38, rng.randint(1, 8), words)[0] for _ in range(routines)
    ]
    return Book(cells, tuple(bodies))


def random_books(seed, many):
    """So many books."""
    rng = random.Random(seed)
    return [random_book(rng) for _ in range(many)]


def the_book():
    """The book of the document's examples."""
    return Book(1, ((("while", ("less", (0, 0), (1, 0)), (("say", (1, 0)), ("set", 0, (1, -1)))),),))


def nested_body(deep, word="while", inner=()):
    """A body so deep, of whiles or ifs one within another."""
    test = ("less", (0, 0), (1, 0))
    body = inner
    for _ in range(deep - 1):
        body = ((word, test, body),) if word == "while" else ((word, test, body, ()),)
    return body


def whiles_in(body):
    """How many whiles a body has."""
    many = 0
    for statement in body:
        many += statement[0] == "while"
        many += sum(whiles_in(inner) for inner in statement[2:] if statement[0] in ("if", "while"))
    return many


class Drawn:
    """The places and arrows of a routine, drawn from what comes behind each statement."""

    def __init__(self, body):
        self.deeds = ["begin"]
        # Each statement by the way to it: a row of numbers, of a statement in its body, of a body in its statement.
        self.places = {}
        self.joins = {}
        self.number(body, ())
        self.deeds.append("end")
        self.last = len(self.deeds) - 1
        # (tail, yes or no, head, by which way it comes in)
        self.arrows = [(0, 0) + self.first(body, (), (self.last, "in"))]
        self.draw(body, (), (self.last, "in"))
        self.arrows.sort()

    def number(self, body, way):
        """Numbers the places in the order of the text."""
        for at, statement in enumerate(body):
            here = way + (at,)
            self.places[here] = len(self.deeds)
            self.deeds.append(statement[1] if statement[0] in ("if", "while") else statement)
            if statement[0] in ("if", "while"):
                for which, inner in enumerate(statement[2:]):
                    self.number(inner, here + (which,))
            if statement[0] == "if":
                self.joins[here] = len(self.deeds)
                self.deeds.append("join")

    def first(self, body, way, behind):
        """What a body begins with, or what comes behind it."""
        return (self.places[way + (0,)], "ahead") if body else behind

    def draw(self, body, way, behind):
        """The arrows from all places of a body, if this comes behind it."""
        for at, statement in enumerate(body):
            here = way + (at,)
            place = self.places[here]
            following = (self.places[way + (at + 1,)], "ahead") if at + 1 < len(body) else behind
            if statement[0] == "while":
                self.arrows.append((place, 0) + self.first(statement[2], here + (0,), (place, "body")))
                self.arrows.append((place, 1) + following)
                self.draw(statement[2], here + (0,), (place, "body"))
            elif statement[0] == "if":
                join = self.joins[here]
                for which, role in ((0, "first"), (1, "second")):
                    inner = statement[2 + which]
                    self.arrows.append((place, which) + self.first(inner, here + (which,), (join, role)))
                    self.draw(inner, here + (which,), (join, role))
                self.arrows.append((join, 0) + following)
            else:
                self.arrows.append((place, 0) + following)

    def ins(self, place, role=None):
        """The ends that come in at a place, by one way."""
        return [
            2 * number + 1 for number, arrow in enumerate(self.arrows)
            if arrow[2] == place and role in (None, arrow[3])
        ]

    def outs(self, place):
        """The ends that go out at a place."""
        return [2 * number for number, arrow in enumerate(self.arrows) if arrow[0] == place]

    def round(self, place):
        """The round of a place, as 6.2 tells it."""
        deed = self.deeds[place]
        if deed == "join":
            return self.outs(place) + self.ins(place, "second") + self.ins(place, "first")
        if isinstance(deed, tuple) and deed[0] in ("less", "same") and len(self.ins(place)) == 2:
            return self.outs(place) + self.ins(place, "ahead") + self.ins(place, "body")
        return self.outs(place) + self.ins(place)


class SlowRun:
    """A run that goes along the text alone."""

    def __init__(self, book, begins):
        self.book = book
        self.cells = list(begins)
        self.said = []
        self.word = "on"

    def total(self, numbers):
        """What a SUM comes to."""
        return sum(many * held for many, held in zip(numbers, self.cells)) + numbers[-1]

    def holds(self, test):
        """Whether a TEST holds."""
        first, second = self.total(test[1]), self.total(test[2])
        return first < second if test[0] == "less" else first == second

    def routine(self, number, opened):
        """Yields behind each step of a routine, which is the last one of so many that are open."""
        yield
        yield from self.body(self.book.routines[number], opened)
        if self.word == "on":
            if opened == 1:
                self.word = "over"
            yield

    def body(self, body, opened):
        """Yields behind each step of a body."""
        for statement in body:
            if statement[0] == "set":
                self.cells[statement[1]] = self.total(statement[2])
                yield
            elif statement[0] == "say":
                self.said.append(self.total(statement[1]))
                yield
            elif statement[0] == "call":
                if opened == 20:
                    self.word = "fault"
                    return
                yield
                yield from self.routine(statement[1], opened + 1)
            elif statement[0] == "if":
                which = 2 if self.holds(statement[1]) else 3
                yield
                yield from self.body(statement[which], opened)
                if self.word == "on":
                    yield
            else:
                while self.holds(statement[1]):
                    yield
                    yield from self.body(statement[2], opened)
                    if self.word != "on":
                        return
                yield
            if self.word != "on":
                return


def slow_states(book, begins, most):
    """What ran tells behind 0, 1, 2 .. steps, as long as there are steps, but at most so many."""
    run = SlowRun(book, begins)
    steps = run.routine(0, 1)
    states = []
    for _ in range(most + 1):
        # What stands at a call that is a fault is so already behind the step to it.
        states.append((tuple(run.said), run.word, tuple(run.cells)))
        try:
            next(steps)
        except StopIteration:
            states[-1] = (tuple(run.said), run.word, tuple(run.cells))
            break
    return states


def slow_sum(numbers):
    """A SUM as a word, by the words of 9.2."""
    word = ""
    for cell, many in enumerate(numbers[:-1]):
        if many:
            word += ("-" if many < 0 else "+") + (str(abs(many)) if abs(many) != 1 else "") + "c" + str(cell)
    if numbers[-1] or not word:
        word += ("-" if numbers[-1] < 0 else "+") + str(abs(numbers[-1]))
    return word[1:] if word[0] == "+" else word


def slow_lines(body):
    """The lines of a body, by the words of 9.2."""
    for statement in body:
        if statement[0] == "set":
            yield "set {} {}".format(statement[1], slow_sum(statement[2]))
        elif statement[0] == "say":
            yield "say " + slow_sum(statement[1])
        elif statement[0] == "call":
            yield "call " + str(statement[1])
        else:
            sign = {"less": "<", "same": "="}[statement[1][0]]
            yield " ".join((statement[0], slow_sum(statement[1][1]), sign, slow_sum(statement[1][2])))
            for which, inner in enumerate(statement[2:]):
                if which == 1:
                    yield "else"
                yield from slow_lines(inner)
            yield "end"


def slow_source(book):
    """The source of a book, by the words of 9.2."""
    lines = ["cells " + str(book.cells)]
    for body in book.routines:
        lines.append("routine")
        lines += slow_lines(body)
    return "".join(line + "\n" for line in lines)
