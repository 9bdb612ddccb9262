"""A directory as it grows line by line, and why a line can't be taken into it."""

from pointbook.intervals import Intervals
from pointbook.lines import read_line, signs_of
from pointbook.points import NO_STREET, Run, point_of, turned
from pointbook.towns import Street, Town

MOST_LINES = 4096
MOST_POINTS = 65536
MOST_OF_KIND = {"town": 512, "street": 1024, "code": 1024}

FINE = 0
NOT_FORMED = 1
TOO_MUCH = 2
CANNOT_STAND = 3
CLASHES = 4


class Book:
    """A directory: the lines taken so far."""

    def __init__(self):
        self.text = []
        self.line_count = 0
        self.counts = {"town": 0, "code": 0, "street": 0, "span": 0, "letters": 0, "boxes": 0}
        self.towns = []
        self.streets = []
        self.town = None
        self.street = None
        self.walks = {}
        self.runs = Intervals()
        self.point_count = 0

    def fill(self, text):
        """Takes a text's lines into a new book up to its fault: FINE, or why the line behind those isn't taken."""
        self.text = list(text)
        rows = signs_of(text).split("\n")
        unended = rows.pop()
        for row in rows:
            why = self.take_row(row)
            if why != FINE:
                return why
        return FINE if unended == "" else NOT_FORMED

    def take_row(self, row):
        """Takes the line that a row of signs says: FINE, or why it isn't taken."""
        line = read_line(row)
        if line is None:
            return NOT_FORMED
        if not self.can_stand(line):
            return CANNOT_STAND
        if self.clashes(line):
            return CLASHES
        if self.is_too_much(line):
            return TOO_MUCH
        self.add_line(line)
        return FINE

    def can_stand(self, line):
        """Whether a line finds before it what it needs there."""
        if line.kind == "town":
            return True
        if self.town is None:
            return False
        if line.kind in ("span", "letters") and self.street is None:
            return False
        if line.kind in ("span", "boxes"):
            return line.code in self.town.codes
        if line.kind == "letters":
            return self.street.span_run_of(line.number) is not None
        return True

    def clashes(self, line):
        """Whether a line that can stand tells again what is told already."""
        if line.kind == "code":
            return line.code in self.town.codes
        if line.kind == "span":
            return self.street.has_some_number(line) or self.has_some_place(line)
        if line.kind == "letters":
            return self.street.has_some_letter(line)
        if line.kind == "boxes":
            return self.town.boxes.meets(line.low, line.high) or self.has_some_place(line)
        return False

    def has_some_place(self, line):
        """Whether a place of this span, these boxes is taken in their walk."""
        if line.walk not in self.walks:
            return False
        return self.walks[line.walk].meets(line.first, line.first + line.point_count - 1)

    def is_too_much(self, line):
        """Whether a line goes beyond what a directory may have."""
        if self.line_count >= MOST_LINES or self.point_count + line.point_count > MOST_POINTS:
            return True
        return line.kind in MOST_OF_KIND and self.counts[line.kind] >= MOST_OF_KIND[line.kind]

    def add_line(self, line):
        """Takes up a line in which nothing's wrong."""
        self.line_count += 1
        self.counts[line.kind] += 1
        if line.kind == "town":
            self.town = Town(line.names)
            self.towns.append(self.town)
            self.street = None
        elif line.kind == "code":
            self.town.codes[line.code] = True
        elif line.kind == "street":
            self.street = Street(line.names, len(self.towns) - 1)
            self.streets.append(self.street)
        else:
            self.add_points(line)

    def add_points(self, line):
        """Takes up the points that a line of a span, letters or boxes brings."""
        street = NO_STREET if line.kind == "boxes" else len(self.streets) - 1
        run = Run(line, len(self.towns) - 1, street, self.point_count)
        if line.kind == "span":
            self.street.add_span(line, run)
            self.add_places(line, run)
        elif line.kind == "letters":
            run.span_run = self.street.span_run_of(line.number)
            self.street.add_letters(line, run)
        else:
            self.town.boxes.add(line.low, line.high, run)
            self.add_places(line, run)
        self.point_count += line.point_count
        self.runs.add(run.begin, self.point_count - 1, run)

    def add_places(self, line, run):
        """Takes up the places that a span or boxes have in their walk."""
        places = self.walks.setdefault(line.walk, Intervals())
        places.add(line.first, line.first + line.point_count - 1, run)

    def point(self, i):
        """The point numbered i; None if there's none."""
        run = self.runs.holder_of(i)
        if run is None:
            return None
        return point_of(run, i)

    def find_point(self, town, street, number, letter):
        """The number of the point of this town, street, number and letter; None if there's none."""
        if street >= len(self.streets) or self.streets[street].town != town:
            return None
        return self.streets[street].find_point(number, letter)

    def find_box(self, town, number):
        """The number of the point that is the town's box of this number; None if there's none."""
        if town >= len(self.towns):
            return None
        return self.towns[town].find_box(number)

    def walk_points(self, walk):
        """The numbers of a walk's points, in the walk's order."""
        found = []
        if walk in self.walks:
            # The runs of a walk are kept by rising places, and no two have places between one another's.
            for run in self.walks[walk].holders:
                found.extend(self.run_points(run))
        return found

    def run_points(self, run):
        """The numbers of the points at a span's or boxes' places, in the walk's order, letters behind their number."""
        line = run.line
        found = []
        for step in range(line.point_count):
            offset = turned(line, step)
            found.append(run.begin + offset)
            if run.street != NO_STREET:
                found.extend(self.streets[run.street].lettered_points(line.low + offset * line.step))
        return found
