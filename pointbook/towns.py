"""Towns and streets: what their later lines are judged by, and how their points are found."""

from pointbook.intervals import Intervals
from pointbook.lines import NO_LETTER
from pointbook.points import index_of


class Town:
    """A town's names, its codes, and its boxes with the runs that hold them."""

    def __init__(self, names):
        self.names = names
        self.codes = {}
        self.boxes = Intervals()

    def find_box(self, number):
        """The number of the point that is the box of this number; None if there's none."""
        run = self.boxes.holder_of(number)
        return None if run is None else index_of(run, number)


class Street:
    """A street's town and names, its numbers with the runs that hold them, and its letters.

    Even and odd numbers are kept apart, halved, so that the numbers of every side have no gaps.
    """

    def __init__(self, names, town):
        self.names = names
        self.town = town
        self.halves = [Intervals(), Intervals()]
        # For each number that has letters: its letters, and the number of the point that each of them is.
        self.letters = {}

    def span_run_of(self, number):
        """The span's run that has this number; None if none has."""
        return self.halves[number % 2].holder_of(number // 2)

    def has_some_number(self, line):
        """Whether a number of this span is there already."""
        return any([self.halves[half[0]].meets(half[1], half[2]) for half in halves_of(line)])

    def add_span(self, line, run):
        for half in halves_of(line):
            self.halves[half[0]].add(half[1], half[2], run)

    def has_some_letter(self, line):
        """Whether the number has one of these letters already."""
        there = self.letters.get(line.number, {})
        return any([letter in there for letter in range(line.low, line.high + 1)])

    def add_letters(self, line, run):
        there = self.letters.setdefault(line.number, {})
        for letter in range(line.low, line.high + 1):
            there[letter] = run.begin + letter - line.low

    def find_point(self, number, letter):
        """The number of the point of this number and letter; None if there's none."""
        if letter != NO_LETTER:
            return self.letters.get(number, {}).get(letter)
        run = self.span_run_of(number)
        return None if run is None else index_of(run, number)

    def lettered_points(self, number):
        """The numbers of the points of this number that have a letter, by letter."""
        if number not in self.letters:
            return []
        there = self.letters[number]
        return [there[letter] for letter in sorted(there)]


def halves_of(line):
    """A span's even numbers, its odd numbers, if it has such: each (0 or 1, the lowest and the highest halved)."""
    halves = []
    for odd in (0, 1):
        low = (line.low + 1 - odd) // 2
        high = (line.high - odd) // 2
        if low <= high and (line.step == 1 or line.low % 2 == odd):
            halves.append((odd, low, high))
    return halves
