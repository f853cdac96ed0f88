"""Runs of books: to their end at once, or led step by step, back too."""

from bigcorners.books import Plan, is_routine
from bigcorners.errors import NoBreak, NoContents, NoNumber, NoPlace, NoRoutine, NothingDone, NotRunning
from bigcorners.kinds import are_whole, is_between, is_row, is_whole

MOST_STEPS = 5000
MOST_ROUTINES_BEGUN = 20


def ran(book, begins, most):
    """What was said behind so many steps of a run, whether it is over, at a fault or goes on, and the contents."""
    runner = Runner(book, begins)
    runner.go(most)
    word = runner.word()
    if word == "runs":
        word = "on"
    return (runner.said(), word, runner.contents())


def word_of(task):
    """The word of what is done at a place: a word alone, or a statement or a TEST that begins with it."""
    if isinstance(task, str):
        return task
    return task[0]


class Runner:
    """Leads a run [7.1]."""

    def __init__(self, book, begins):
        if not is_row(begins, book.cells) or not are_whole(begins):
            raise NoContents()
        self.book = book
        self.plans = [Plan(body) for body in book.routines]
        # The pairs (routine, place) of all routines that were called and have not come to their end, and what the
        # cells hold.
        self.stands = ((0, 0),)
        self.holding = tuple(begins)
        self.spoken = []
        self.gone = []
        # For each step, what was ahead of it: where it stood, what the cells held, how much was said, and how many
        # arrows it had gone along.
        self.past = []
        self.marks = {}

    def word(self):
        """Whether it "runs", is "over", or stands at a "fault"."""
        if not self.stands:
            return "over"
        if len(self.stands) == MOST_ROUTINES_BEGUN and word_of(self.task()) == "call":
            return "fault"
        return "runs"

    def task(self):
        """What is done at the place at which it stands."""
        routine, place = self.stands[-1]
        return self.plans[routine].tasks[place]

    def where(self):
        """The pairs (routine, place) of all open routines, the first one first."""
        return self.stands

    def contents(self):
        """What the cells hold."""
        return self.holding

    def said(self):
        """The numbers said."""
        return tuple(self.spoken)

    def step(self):
        """Does one step."""
        if self.word() != "runs":
            raise NotRunning()
        self.past.append((self.stands, self.holding, len(self.spoken), len(self.gone)))
        task = self.task()
        word = word_of(task)
        if word == "end":
            self.close_routine()
        elif word == "call":
            self.stands = self.stands + ((task[1], 0),)
        elif word in ("less", "same"):
            self.go_along(0 if self.test_holds(task) else 1)
        else:
            if word == "set":
                self.set_cell(task[1], self.total_of(task[2]))
            elif word == "say":
                self.spoken.append(self.total_of(task[1]))
            self.go_along(0)

    def close_routine(self):
        """From an end it goes on behind the call, or to no place."""
        self.stands = self.stands[:-1]
        if self.stands:
            self.go_along(0)

    def go_along(self, branch):
        """Goes along an arrow that leaves the place: branch 1 is that of no, 0 that of yes, or the only one."""
        routine, place = self.stands[-1]
        arrow, head = self.plans[routine].ways[(place, branch)]
        self.gone.append((routine, arrow))
        self.stands = self.stands[:-1] + ((routine, head),)

    def total_of(self, numbers):
        """What a SUM comes to."""
        return sum([many * held for many, held in zip(numbers, self.holding)]) + numbers[-1]

    def test_holds(self, test):
        """Whether a TEST holds."""
        first, second = self.total_of(test[1]), self.total_of(test[2])
        if test[0] == "less":
            return first < second
        return first == second

    def set_cell(self, cell, number):
        """A cell holds another number."""
        self.holding = self.holding[:cell] + (number,) + self.holding[cell + 1:]

    def back(self):
        """Takes the last step back."""
        if not self.past:
            raise NothingDone()
        self.stands, self.holding, spoken, gone = self.past.pop()
        del self.spoken[spoken:]
        del self.gone[gone:]

    def steps(self):
        """How many steps were done and are not taken back."""
        return len(self.past)

    def trail(self):
        """The pairs (routine, arrow) of all arrows along which these steps went."""
        return tuple(self.gone)

    def set_break(self, routine, place):
        """From now on there is a break at a place."""
        if not is_routine(self.book, routine):
            raise NoRoutine()
        if not is_between(place, 0, len(self.plans[routine].tasks) - 1):
            raise NoPlace()
        self.marks[(routine, place)] = True

    def clear_break(self, routine, place):
        """From now on there is no break at a place."""
        # A flag would be found where the integer is that it is equal to, and other things may have no hash.
        if not is_whole(routine) or not is_whole(place) or (routine, place) not in self.marks:
            raise NoBreak()
        del self.marks[(routine, place)]

    def breaks(self):
        """The places with a break, ascending."""
        return tuple(sorted(self.marks))

    def go(self, most):
        """Steps at most so often, while it runs and up to the first break; returns how many steps were done."""
        if not is_between(most, 0, MOST_STEPS):
            raise NoNumber()
        done = 0
        while done < most and self.word() == "runs":
            self.step()
            done += 1
            if self.stands and self.stands[-1] in self.marks:
                break
        return done

    def copy(self):
        """Another Runner that goes on apart."""
        other = Runner(self.book, self.holding)
        other.stands = self.stands
        other.spoken = list(self.spoken)
        other.gone = list(self.gone)
        other.past = list(self.past)
        other.marks = {mark: True for mark in self.marks}
        return other
