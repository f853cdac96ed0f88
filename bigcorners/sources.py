"""Sources: books as texts, and texts as books."""

from bigcorners.books import MOST_CELLS, Book
from bigcorners.errors import BadText
from bigcorners.texts import is_number


def source(book):
    """A book as a text."""
    lines = [f"cells {book.cells}"]
    for body in book.routines:
        lines.append("routine")
        lines.extend(body_lines(body))
    return "".join([line + "\n" for line in lines])


def body_lines(body):
    """The lines of a body."""
    lines = []
    for statement in body:
        word = statement[0]
        if word == "set":
            lines.append(f"set {statement[1]} {sum_word(statement[2])}")
        elif word == "say":
            lines.append(f"say {sum_word(statement[1])}")
        elif word == "call":
            lines.append(f"call {statement[1]}")
        else:
            lines.append(f"{word} {test_words(statement[1])}")
            lines.extend(body_lines(statement[2]))
            if word == "if":
                lines.append("else")
                lines.extend(body_lines(statement[3]))
            lines.append("end")
    return lines


def test_words(test):
    """A TEST in words."""
    word, first, second = test
    sign = "<" if word == "less" else "="
    return f"{sum_word(first)} {sign} {sum_word(second)}"


def sum_word(numbers):
    """A SUM as a word."""
    told = ""
    for cell, many in enumerate(numbers[:-1]):
        if many != 0:
            multiple = "" if abs(many) == 1 else str(abs(many))
            told += f"{sign_of(many)}{multiple}c{cell}"
    if numbers[-1] != 0 or told == "":
        told += f"{sign_of(numbers[-1])}{abs(numbers[-1])}"
    return told.removeprefix("+")


def sign_of(number):
    """The sign of a number, as it is told."""
    return "-" if number < 0 else "+"


def translated(text):
    """The book that a text tells."""
    if not isinstance(text, str):
        raise BadText(0)
    lines = text.split("\n")
    behind = lines.pop()
    if not lines or not is_cells_line(lines[0]):
        raise BadText(1)
    reading = Reading(int(lines[0].split(" ")[1]))
    for number, line in enumerate(lines[1:], start=2):
        if not reading.takes(line):
            raise BadText(number)
    if behind != "" or reading.begun:
        raise BadText(len(lines) + 1)
    return Book(reading.cells, reading.all_routines())


def is_cells_line(line):
    """Whether a line is the one that tells how many cells there are."""
    words = line.split(" ")
    return len(words) == 2 and words[0] == "cells" and is_number(words[1]) and 1 <= int(words[1]) <= MOST_CELLS


class Reading:
    """What was read of a text so far, and what is begun."""

    def __init__(self, cells):
        self.cells = cells
        # For each routine, the list of its statements that are done.
        self.routines = []
        # The statements that are begun and not done, each within the one before it.
        self.begun = []

    def all_routines(self):
        """The tuple of all routines, when nothing is begun."""
        return tuple([tuple(statements) for statements in self.routines])

    def takes(self, line):
        """Reads one more line; returns whether it has a form and can stand there."""
        words = line.split(" ")
        if line == "routine":
            return self.takes_routine()
        if len(self.routines) == 0:
            return False
        if line == "else":
            return self.takes_else()
        if line == "end":
            return self.takes_end()
        if words[0] in ("if", "while"):
            return self.takes_test(words)
        return self.takes_statement(words)

    def takes_routine(self):
        """A routine can't stand within a statement."""
        if self.begun:
            return False
        self.routines.append([])
        return True

    def takes_else(self):
        """An else can stand in the first body of an if."""
        if not self.begun or self.begun[-1].kind != "if" or len(self.begun[-1].bodies) == 2:
            return False
        self.begun[-1].bodies.append([])
        return True

    def takes_end(self):
        """An end can stand in the last body of a statement."""
        if not self.begun or not self.begun[-1].has_all_bodies():
            return False
        done = self.begun.pop()
        self.keep(done.statement())
        return True

    def takes_test(self, words):
        """An if or a while begins."""
        test = None
        if len(words) == 4:
            test = test_in(words[1:], self.cells)
        if test is None:
            return False
        self.begun.append(Begun(words[0], test))
        return True

    def takes_statement(self, words):
        """A statement that is done with its line."""
        statement = statement_in(words, self.cells)
        if statement is None:
            return False
        self.keep(statement)
        return True

    def keep(self, statement):
        """A statement behind those that are done, where the text stands."""
        if self.begun:
            self.begun[-1].bodies[-1].append(statement)
        else:
            self.routines[-1].append(statement)


class Begun:
    """An if or a while that is begun."""

    def __init__(self, kind, test):
        self.kind = kind
        self.test = test
        # The statements of each of its bodies so far.
        self.bodies = [[]]

    def has_all_bodies(self):
        """Whether all of its bodies are begun."""
        return self.kind == "while" or len(self.bodies) == 2

    def statement(self):
        """The statement, done."""
        return (self.kind, self.test) + tuple([tuple(body) for body in self.bodies])


def statement_in(words, cells):
    """The set, the say or the call that words tell, or None."""
    if words[0] == "set" and len(words) == 3 and is_number(words[1]):
        numbers = sum_in(words[2], cells)
        return None if numbers is None else ("set", int(words[1]), numbers)
    if words[0] == "say" and len(words) == 2:
        numbers = sum_in(words[1], cells)
        return None if numbers is None else ("say", numbers)
    if words[0] == "call" and len(words) == 2 and is_number(words[1]):
        return ("call", int(words[1]))
    return None


def test_in(words, cells):
    """The TEST that three words tell, or None."""
    first, second = sum_in(words[0], cells), sum_in(words[2], cells)
    if words[1] not in ("<", "=") or first is None or second is None:
        return None
    return ("less" if words[1] == "<" else "same", first, second)


def sum_in(word, cells):
    """The SUM that a word tells as a row of terms, or None."""
    # Each term gets its sign; where the first one has a + of its own, what is ahead of that is no term.
    signed = word if word.startswith("-") else "+" + word
    totals = [0] * (cells + 1)
    for term in signed.replace("+", " +").replace("-", " -").split(" ")[1:]:
        read = term_in(term[1:], cells)
        if read is None:
            return None
        at, many = read
        totals[at] += -many if term[0] == "-" else many
    return tuple(totals)


def term_in(term, cells):
    """The place in a SUM at which a term without its sign counts, and how much it is; or None."""
    many, letter, cell = term.partition("c")
    if letter == "":
        return (cells, int(many)) if is_number(many) else None
    if not is_number(cell) or int(cell) >= cells:
        return None
    if many == "":
        return (int(cell), 1)
    return (int(cell), int(many)) if is_number(many) else None
