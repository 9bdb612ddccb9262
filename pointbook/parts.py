"""A point's parts: the lines that tell it by the names it has."""

from pointbook.lines import letter_sign
from pointbook.points import NO_STREET


def parts_of(book, point):
    """The lines, each with its line feed, that tell this point of the book."""
    rows = ["box " + str(point.number)]
    if point.street != NO_STREET:
        number = str(point.number) + letter_sign(point.letter)
        rows = ["number " + number, "street " + book.streets[point.street].names[0]]
    rows.append("town " + book.towns[point.town].names[0])
    rows.append("code " + point.code)
    return "".join([row + "\n" for row in rows])
