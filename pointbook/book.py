"""A directory as it grows line by line, and why a line can't be taken into it."""

from pointbook.intervals import Intervals
from pointbook.lines import read_line, signs_of
from pointbook.points import Run, point_of

MOST_LINES = 4096
MOST_POINTS = 65536
MOST_OF_KIND = {"town": 512, "street": 1024, "code": 1024}

FINE = 0
NOT_FORMED = 1
TOO_MUCH = 2
CANNOT_STAND = 3
CLASHES = 4


class Town:
    """What later lines of a town are judged by: its codes, and its boxes with the runs that hold them."""

    def __init__(self):
        self.codes = {}
        self.boxes = Intervals()


class Street:
    """What later lines of a street are judged by: its numbers with the runs that hold them, and its letters.

    Even and odd numbers are kept apart, halved, so that the numbers of every side have no gaps.
    """

    def __init__(self):
        self.halves = [Intervals(), Intervals()]
        self.letters = {}

    def span_run_of(self, number):
        """The span's run that has this number; None if none has."""
        return self.halves[number % 2].holder_of(number // 2)

    def has_some_number(self, line):
        """Whether a number of this span is there already."""
        return any([self.halves[half[0]].meets(half[1], half[2]) for half in halves_of(line)])

    def add_span(self, line, run):
        for half in halves_of(line):
            self.halves[half[0]].add(half[1], half[2], run)

    def has_some_letter(self, line):
        """Whether the number has one of these letters already."""
        return any([(line.number, letter) in self.letters for letter in range(line.low, line.high + 1)])

    def add_letters(self, line):
        for letter in range(line.low, line.high + 1):
            self.letters[(line.number, letter)] = True


def halves_of(line):
    """A span's even numbers, its odd numbers, if it has such: each (0 or 1, the lowest and the highest halved)."""
    halves = []
    for odd in (0, 1):
        low = (line.low + 1 - odd) // 2
        high = (line.high - odd) // 2
        if low <= high and (line.step == 1 or line.low % 2 == odd):
            halves.append((odd, low, high))
    return halves


class Book:
    """A directory: the lines taken so far."""

    def __init__(self):
        self.text = []
        self.line_count = 0
        self.counts = {"town": 0, "code": 0, "street": 0, "span": 0, "letters": 0, "boxes": 0}
        self.town = None
        self.street = None
        self.walks = {}
        self.runs = Intervals()
        self.point_count = 0

    def fill(self, text):
        """Takes a text's lines into a new book up to its fault: FINE, or why the line behind those isn't taken."""
        self.text = list(text)
        rows = signs_of(text).split("\n")
        unended = rows.pop()
        for row in rows:
            why = self.take_row(row)
            if why != FINE:
                return why
        return FINE if unended == "" else NOT_FORMED

    def take_row(self, row):
        """Takes the line that a row of signs says: FINE, or why it isn't taken."""
        line = read_line(row)
        if line is None:
            return NOT_FORMED
        if not self.can_stand(line):
            return CANNOT_STAND
        if self.clashes(line):
            return CLASHES
        if self.is_too_much(line):
            return TOO_MUCH
        self.add_line(line)
        return FINE

    def can_stand(self, line):
        """Whether a line finds before it what it needs there."""
        if line.kind == "town":
            return True
        if self.town is None:
            return False
        if line.kind in ("span", "letters") and self.street is None:
            return False
        if line.kind in ("span", "boxes"):
            return line.code in self.town.codes
        if line.kind == "letters":
            return self.street.span_run_of(line.number) is not None
        return True

    def clashes(self, line):
        """Whether a line that can stand tells again what is told already."""
        if line.kind == "code":
            return line.code in self.town.codes
        if line.kind == "span":
            return self.street.has_some_number(line) or self.has_some_place(line)
        if line.kind == "letters":
            return self.street.has_some_letter(line)
        if line.kind == "boxes":
            return self.town.boxes.meets(line.low, line.high) or self.has_some_place(line)
        return False

    def has_some_place(self, line):
        """Whether a place of this span, these boxes is taken in their walk."""
        if line.walk not in self.walks:
            return False
        return self.walks[line.walk].meets(line.first, line.first + line.point_count - 1)

    def is_too_much(self, line):
        """Whether a line goes beyond what a directory may have."""
        if self.line_count >= MOST_LINES or self.point_count + line.point_count > MOST_POINTS:
            return True
        return line.kind in MOST_OF_KIND and self.counts[line.kind] >= MOST_OF_KIND[line.kind]

    def add_line(self, line):
        """Takes up a line in which nothing's wrong."""
        self.line_count += 1
        self.counts[line.kind] += 1
        if line.kind == "town":
            self.town = Town()
            self.street = None
        elif line.kind == "code":
            self.town.codes[line.code] = True
        elif line.kind == "street":
            self.street = Street()
        else:
            self.add_points(line)

    def add_points(self, line):
        """Takes up the points that a line of a span, letters or boxes brings."""
        street = -1 if line.kind == "boxes" else self.counts["street"] - 1
        run = Run(line, self.counts["town"] - 1, street, self.point_count)
        if line.kind == "span":
            self.street.add_span(line, run)
            self.add_places(line, run)
        elif line.kind == "letters":
            run.span_run = self.street.span_run_of(line.number)
            self.street.add_letters(line)
        else:
            self.town.boxes.add(line.low, line.high, run)
            self.add_places(line, run)
        self.point_count += line.point_count
        self.runs.add(run.begin, self.point_count - 1, run)

    def add_places(self, line, run):
        """Takes up the places that a span or boxes have in their walk."""
        places = self.walks.setdefault(line.walk, Intervals())
        places.add(line.first, line.first + line.point_count - 1, run)

    def point(self, i):
        """The point numbered i; None if there's none."""
        run = self.runs.holder_of(i)
        if run is None:
            return None
        return point_of(run, i)
