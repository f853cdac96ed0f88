"""All errors that the package raises. Each keeps what it was made with, whatever that is."""


class ChartError(ValueError):
    """The base of all errors of this package."""


class BadChart(ChartError):
    """What was passed makes no chart; the part tells what of it is wrong."""

    def __init__(self, part):
        self.part = part


class NoEnd(ChartError):
    """What was passed is no end of the chart."""

    def __init__(self):
        pass


class NoArrow(ChartError):
    """What was passed is no arrow of the chart."""

    def __init__(self):
        pass


class NoPicture(ChartError):
    """What was passed is no picture that is right for the chart."""

    def __init__(self):
        pass


class Tangled(ChartError):
    """At this place of the chart, what goes out does not lie together."""

    def __init__(self, place):
        self.place = place


class NoTable(ChartError):
    """What was passed is no table for the chart."""

    def __init__(self):
        pass


class NoNumber(ChartError):
    """What was passed is no number that may stand there."""

    def __init__(self):
        pass


class NoDealing(ChartError):
    """What was passed is no dealing of the chart."""

    def __init__(self):
        pass


class BadText(ChartError):
    """The text has not the form that it must have; the first such line is told."""

    def __init__(self, line):
        self.line = line


class NoSketch(ChartError):
    """The text is the sketch of no picture."""

    def __init__(self):
        pass


class BadBook(ChartError):
    """What was passed makes no book; the part tells what of it is wrong."""

    def __init__(self, part):
        self.part = part


class NoRoutine(ChartError):
    """What was passed is no routine of the book."""

    def __init__(self):
        pass


class NoPlace(ChartError):
    """What was passed is no place of the routine."""

    def __init__(self):
        pass


class NoContents(ChartError):
    """What was passed is nothing that the cells can hold."""

    def __init__(self):
        pass


class NotRunning(ChartError):
    """The run is over, or stands at a fault."""

    def __init__(self):
        pass


class NothingDone(ChartError):
    """There is nothing to take back, or to do again."""

    def __init__(self):
        pass


class NoBreak(ChartError):
    """There is no break."""

    def __init__(self):
        pass


class NotOneRim(ChartError):
    """The two angles lie on two rims."""

    def __init__(self):
        pass


class NoPrice(ChartError):
    """What was passed is no price."""

    def __init__(self):
        pass


class Full(ChartError):
    """The chart has as many places or arrows as a chart may have."""

    def __init__(self):
        pass


class Apart(ChartError):
    """What is left would not hang together, or has no arrow."""

    def __init__(self):
        pass


class NoLine(ChartError):
    """What was passed is no line that a desk understands."""

    def __init__(self):
        pass


class NoName(ChartError):
    """Nothing of this sort is kept under this name."""

    def __init__(self, name):
        self.name = name


class NoRunner(ChartError):
    """No runner was started."""

    def __init__(self):
        pass
