"""Points, and the runs of them that single lines bring."""


class Run:
    """The points that one line of a span, letters or boxes brings, one behind another."""

    def __init__(self, line, town, street, begin):
        self.line = line
        self.town = town
        self.street = street
        self.begin = begin
        self.span_run = None


class Point:
    """Where letters are handed over; the street of a box is -1, no letter is 0."""

    def __init__(self, town, street, number):
        self.town = town
        self.street = street
        self.number = number
        self.letter = 0
        self.code = ""
        self.walk = 0
        self.place = 0


def point_of(run, i):
    """The point numbered i, which must be one of this run's."""
    if run.span_run is None:
        return point_at(run, i - run.begin)
    return lettered_point(run, i - run.begin)


def point_at(run, offset):
    """The point of a span's or boxes' run that has so many of the run's before it."""
    line = run.line
    point = Point(run.town, run.street, line.low + offset * line.step)
    point.code = line.code
    point.walk = line.walk
    point.place = line.first + offset
    if line.back:
        point.place = line.first + line.point_count - 1 - offset
    return point


def lettered_point(run, offset):
    """The point of a letters' run that has so many of the run's before it: its number's, but for the letter."""
    span_line = run.span_run.line
    point = point_at(run.span_run, (run.line.number - span_line.low) // span_line.step)
    point.letter = run.line.low + offset
    return point
