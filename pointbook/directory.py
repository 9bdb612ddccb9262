"""The calls: an object that holds a directory, and what it answers."""

from pointbook.book import FINE, Book
from pointbook.lines import bytes_of

TAKE = 0
MORE = 1
TEXT = 2
SIZES = 3
POINT = 4

TOO_LONG = -2
NO_POINT = -4
FAULTY = -6

MOST_BYTES = 65536


class UnknownCall(ValueError):
    """A number that no call has."""


class Holder:
    """The object that calls are put to; new it holds the directory of no lines."""

    def __init__(self):
        self.book = Book()

    def take(self, text):
        if len(text) > MOST_BYTES:
            return [TOO_LONG]
        # The held book stays untouched while another is filled: a refusal leaves the object as it was.
        book = Book()
        why = book.fill(text)
        if why != FINE:
            return [FAULTY, book.line_count, why]
        self.book = book
        return [0]

    def more(self, text):
        return self.take(self.book.text + text)

    def tell_text(self):
        return [len(self.book.text)] + self.book.text

    def tell_sizes(self):
        kinds = ("town", "street", "code", "span", "letters", "boxes")
        counts = [self.book.counts[kind] for kind in kinds]
        return [0] + counts + [self.book.point_count, len(self.book.walks)]

    def tell_point(self, i):
        point = self.book.point(i)
        if point is None:
            return [NO_POINT]
        told = [0, point.town, point.street, point.number, point.letter, point.walk, point.place]
        return told + [len(point.code)] + bytes_of(point.code)


def call_end(calls, at):
    """Where the call that begins at this place of the list ends."""
    call = calls[at]
    if call == TAKE or call == MORE:
        return at + 2 + calls[at + 1]
    if call == POINT:
        return at + 2
    return at + 1


def answer_of(holder, call):
    """What the object answers to one call, laid out as in the list of calls."""
    if call[0] == TAKE:
        return holder.take(call[2:])
    if call[0] == MORE:
        return holder.more(call[2:])
    if call[0] == TEXT:
        return holder.tell_text()
    if call[0] == SIZES:
        return holder.tell_sizes()
    if call[0] == POINT:
        return holder.tell_point(call[1])
    raise UnknownCall("there is no such call")


def answers(calls):
    """For each call on one new object, in order: how many numbers it answers, then these."""
    holder = Holder()
    told = []
    at = 0
    while at < len(calls):
        end = call_end(calls, at)
        answer = answer_of(holder, calls[at:end])
        told.append(len(answer))
        told.extend(answer)
        at = end
    return told
