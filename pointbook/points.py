"""Points, and the runs of them that single lines bring."""

NO_STREET = -1


class Run:
    """The points that one line of a span, letters or boxes brings, one behind another."""

    def __init__(self, line, town, street, begin):
        self.line = line
        self.town = town
        self.street = street
        self.begin = begin
        self.span_run = None


class Point:
    """Where letters are handed over; the street of a box is NO_STREET, no letter is 0."""

    def __init__(self, town, street, number):
        self.town = town
        self.street = street
        self.number = number
        self.letter = 0
        self.code = ""
        self.walk = 0
        self.place = 0


def point_of(run, i):
    """The point numbered i, which must be one of this run's."""
    if run.span_run is None:
        return point_at(run, i - run.begin)
    return lettered_point(run, i - run.begin)


def point_at(run, offset):
    """The point of a span's or boxes' run that has so many of the run's before it."""
    line = run.line
    point = Point(run.town, run.street, line.low + offset * line.step)
    point.code = line.code
    point.walk = line.walk
    point.place = line.first + turned(line, offset)
    return point


def turned(line, offset):
    """How many of a span or boxes stand in the walk before the one with so many lower numbers; or the other way."""
    return line.point_count - 1 - offset if line.back else offset


def offset_of(line, number):
    """How many numbers of a span or boxes are lower than this number, which must be one of theirs."""
    return (number - line.low) // line.step


def index_of(run, number):
    """The number of the point of a span's or boxes' run that has this number, which must be one of the run's."""
    return run.begin + offset_of(run.line, number)


def lettered_point(run, offset):
    """The point of a letters' run that has so many of the run's before it: its number's, but for the letter."""
    number = run.line.number
    point = point_at(run.span_run, offset_of(run.span_run.line, number))
    point.letter = run.line.low + offset
    return point
