"""The calls: an object that holds a directory, and what it answers."""

from pointbook.book import FINE, Book
from pointbook.lines import bytes_of
from pointbook.parts import parts_of

TAKE = 0
MORE = 1
TEXT = 2
SIZES = 3
POINT = 4
FIND = 5
BOX = 6
WALK = 7
NAME = 8
PARTS = 9

OUT_OF_RANGE = -1
TOO_LONG = -2
NOT_FOUND = -3
NOT_THERE = -4
FAULTY = -6

MOST_BYTES = 65536
MOST_LETTER = 26
TOWN_NAME = 0
STREET_NAME = 1


class UnknownCall(ValueError):
    """A number that no call has."""


class Holder:
    """The object that calls are put to; new it holds the directory of no lines."""

    def __init__(self):
        self.book = Book()

    def take(self, text):
        if len(text) > MOST_BYTES:
            return [TOO_LONG]
        # The held book stays untouched while another is filled: a refusal leaves the object as it was.
        book = Book()
        why = book.fill(text)
        if why != FINE:
            return [FAULTY, book.line_count, why]
        self.book = book
        return [0]

    def more(self, text):
        return self.take(self.book.text + text)

    def tell_text(self):
        return [len(self.book.text)] + self.book.text

    def tell_sizes(self):
        kinds = ("town", "street", "code", "span", "letters", "boxes")
        counts = [self.book.counts[kind] for kind in kinds]
        return [0] + counts + [self.book.point_count, len(self.book.walks)]

    def tell_point(self, i):
        point = self.book.point(i)
        if point is None:
            return [NOT_THERE]
        told = [0, point.town, point.street, point.number, point.letter, point.walk, point.place]
        return told + counted(point.code)

    def tell_find(self, town, street, number, letter):
        if letter > MOST_LETTER:
            return [OUT_OF_RANGE]
        return found_or_not(self.book.find_point(town, street, number, letter))

    def tell_box(self, town, number):
        return found_or_not(self.book.find_box(town, number))

    def tell_walk(self, walk):
        found = self.book.walk_points(walk)
        return [len(found)] + found

    def tell_name(self, what, i, j):
        if what != TOWN_NAME and what != STREET_NAME:
            return [OUT_OF_RANGE]
        named = self.book.towns if what == TOWN_NAME else self.book.streets
        if i >= len(named) or j >= len(named[i].names):
            return [NOT_THERE]
        return counted(named[i].names[j])

    def tell_parts(self, i):
        point = self.book.point(i)
        if point is None:
            return [NOT_THERE]
        return counted(parts_of(self.book, point))


def counted(signs):
    """How many bytes these signs have, then they."""
    return [len(signs)] + bytes_of(signs)


def found_or_not(i):
    """The answer that tells the point numbered i; the refusal if it's None."""
    return [NOT_FOUND] if i is None else [i]


def call_end(calls, at):
    """Where the call that begins at this place of the list ends."""
    call = calls[at]
    if call == TAKE or call == MORE:
        return at + 2 + calls[at + 1]
    numbers_behind = {TEXT: 0, SIZES: 0, POINT: 1, FIND: 4, BOX: 2, WALK: 1, NAME: 3, PARTS: 1}
    if call not in numbers_behind:
        raise UnknownCall("there is no such call")
    return at + 1 + numbers_behind[call]


def answer_of(holder, call):
    """What the object answers to one call, laid out as in the list of calls."""
    if call[0] == TAKE:
        return holder.take(call[2:])
    if call[0] == MORE:
        return holder.more(call[2:])
    if call[0] == TEXT:
        return holder.tell_text()
    if call[0] == SIZES:
        return holder.tell_sizes()
    if call[0] == POINT:
        return holder.tell_point(call[1])
    if call[0] == FIND:
        return holder.tell_find(call[1], call[2], call[3], call[4])
    if call[0] == BOX:
        return holder.tell_box(call[1], call[2])
    if call[0] == WALK:
        return holder.tell_walk(call[1])
    if call[0] == NAME:
        return holder.tell_name(call[1], call[2], call[3])
    return holder.tell_parts(call[1])


def answers(calls):
    """For each call on one new object, in order: how many numbers it answers, then these."""
    holder = Holder()
    told = []
    at = 0
    while at < len(calls):
        end = call_end(calls, at)
        answer = answer_of(holder, calls[at:end])
        told.append(len(answer))
        told.extend(answer)
        at = end
    return told
