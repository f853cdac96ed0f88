"""Books: cells and routines of statements, and the chart of each routine."""

from bigcorners.charts import Chart
from bigcorners.errors import BadBook, NoPlace, NoRoutine
from bigcorners.kinds import is_between, is_row

MOST_CELLS = 4
MOST_ROUTINES = 5
MOST_DEEP = 8
MOST_ROUTINE_PLACES = 40
MOST_MULTIPLE = 1000


class Book:
    """A book [6.1]. It never changes."""

    def __init__(self, cells, routines):
        part = wrong_part(cells, routines)
        if part is not None:
            raise BadBook(part)
        # What makes a right book are tuples, strings and integers alone, which never change.
        self.cells = cells
        self.routines = routines

    def __eq__(self, other):
        return type(self) is type(other) and self.cells == other.cells and self.routines == other.routines


def wrong_part(cells, routines):
    """The part that BadBook names, the first that is wrong in the order of [6.1], or None."""
    if not is_between(cells, 1, MOST_CELLS):
        return ("cells",)
    if not isinstance(routines, tuple) or not 1 <= len(routines) <= MOST_ROUTINES:
        return ("routines",)
    for number, body in enumerate(routines):
        if not is_body(body, 1, cells, len(routines)) or 2 + places_in(body) > MOST_ROUTINE_PLACES:
            return ("routine", number)
    return None


def is_body(thing, deep, cells, routines):
    """Whether a thing is a body, so deep within a routine, in a book of so many cells and routines."""
    if not isinstance(thing, tuple) or deep > MOST_DEEP:
        return False
    return all([is_statement(item, deep, cells, routines) for item in thing])


def is_statement(thing, deep, cells, routines):
    """Whether a thing is a statement of a body that is so deep."""
    if not isinstance(thing, tuple) or len(thing) == 0 or not isinstance(thing[0], str):
        return False
    word = thing[0]
    if word == "set":
        return len(thing) == 3 and is_between(thing[1], 0, cells - 1) and is_sum(thing[2], cells)
    if word == "say":
        return len(thing) == 2 and is_sum(thing[1], cells)
    if word == "call":
        return len(thing) == 2 and is_between(thing[1], 0, routines - 1)
    if word == "if":
        bodies = 2
    elif word == "while":
        bodies = 1
    else:
        return False
    if len(thing) != 2 + bodies or not is_test(thing[1], cells):
        return False
    return all([is_body(body, deep + 1, cells, routines) for body in thing[2:]])


def is_sum(thing, cells):
    """Whether a thing is a SUM in a book of so many cells."""
    return is_row(thing, cells + 1) and all([is_between(many, -MOST_MULTIPLE, MOST_MULTIPLE) for many in thing])


def is_test(thing, cells):
    """Whether a thing is a TEST in a book of so many cells."""
    if not is_row(thing, 3) or not isinstance(thing[0], str):
        return False
    return thing[0] in ("less", "same") and is_sum(thing[1], cells) and is_sum(thing[2], cells)


def places_in(body):
    """How many places the statements of a right body have, those within them counted."""
    many = 0
    for statement in body:
        if statement[0] == "if":
            many += 2 + places_in(statement[2]) + places_in(statement[3])
        elif statement[0] == "while":
            many += 1 + places_in(statement[2])
        else:
            many += 1
    return many


class Plan:
    """The places of a routine, and the arrows between them.

    An arrow is known by its START: the pair of its tail and of 1 for no, 0 for yes and for an only arrow. So the
    starts in ascending order are numbered as the arrows are.
    """

    def __init__(self, body):
        # For each place, what is done there, and the starts of what comes in, as its round tells them.
        self.tasks = ["begin"]
        self.coming = [[]]
        self.add_place("end", [self.lay(body, (0, 0))])
        heads = [(start, place) for place, starts in enumerate(self.coming) for start in starts]
        self.ways = {start: (arrow, head) for arrow, (start, head) in enumerate(sorted(heads))}

    def add_place(self, task, starts):
        """The next place, to which what has these starts comes; returns its number."""
        self.tasks.append(task)
        self.coming.append(starts)
        return len(self.tasks) - 1

    def lay(self, body, start):
        """Places for a body to which an arrow with this start comes; returns the start of the one that leaves it."""
        for statement in body:
            if statement[0] == "if":
                start = self.lay_if(statement, start)
            elif statement[0] == "while":
                start = self.lay_while(statement, start)
            else:
                start = (self.add_place(statement, [start]), 0)
        return start

    def lay_if(self, statement, start):
        """Places for an if; returns the start of the arrow that leaves it."""
        place = self.add_place(statement[1], [start])
        first = self.lay(statement[2], (place, 0))
        second = self.lay(statement[3], (place, 1))
        return (self.add_place("join", [second, first]), 0)

    def lay_while(self, statement, start):
        """Places for a while; returns the start of the arrow that leaves it."""
        place = self.add_place(statement[1], [start])
        behind = self.lay(statement[2], (place, 0))
        self.coming[place].append(behind)
        return (place, 1)


def is_routine(book, thing):
    """Whether a thing is the number of a routine of a book."""
    return is_between(thing, 0, len(book.routines) - 1)


def flow(book, routine):
    """The chart of a routine."""
    if not is_routine(book, routine):
        raise NoRoutine()
    plan = Plan(book.routines[routine])
    arrows = [(tail, head) for (tail, _), (_, head) in plan.ways.items()]
    rounds = []
    for place, starts in enumerate(plan.coming):
        leaving = [2 * arrow for arrow, (tail, _) in enumerate(arrows) if tail == place]
        rounds.append(tuple(leaving + [2 * plan.ways[start][0] + 1 for start in starts]))
    return Chart(len(rounds), tuple(arrows), tuple(rounds), 0, (1,) * len(arrows))


def deed(book, routine, place):
    """What is done at a place of a routine."""
    if not is_routine(book, routine):
        raise NoRoutine()
    plan = Plan(book.routines[routine])
    if not is_between(place, 0, len(plan.tasks) - 1):
        raise NoPlace()
    return plan.tasks[place]
