"""Calls laid out, answers taken apart, and a plain judge of texts that the program is held against."""

import re

from pointbook.directory import Holder, answers

NOT_FORMED = 1
TOO_MUCH = 2
CANNOT_STAND = 3
CLASHES = 4


def as_bytes(text):
    return list(text.encode("latin-1")) if isinstance(text, str) else list(text)


def take(text):
    told = as_bytes(text)
    return [0, len(told)] + told


def more(text):
    told = as_bytes(text)
    return [1, len(told)] + told


def text():
    return [2]


def sizes():
    return [3]


def point(i):
    return [4, i]


def find(town, street, number, letter):
    return [5, town, street, number, letter]


def box(town, number):
    return [6, town, number]


def walk(w):
    return [7, w]


def name(what, i, j):
    return [8, what, i, j]


def parts(i):
    return [9, i]


def apart(told):
    """The answers, each a list of its own."""
    found = []
    at = 0
    while at < len(told):
        end = at + 1 + told[at]
        assert end <= len(told)
        found.append(told[at + 1:end])
        at = end
    return found


def ask(*calls):
    """What one new object answers to these calls, each answer a list of its own."""
    laid_out = [number for call in calls for number in call]
    assert 0 < len(calls) <= 400 and len(laid_out) <= 30000
    told = apart(answers(laid_out))
    assert len(told) == len(calls)
    return told


def verdict(told):
    """What take answers of a text that may be longer than a list of calls can be."""
    return Holder().take(as_bytes(told))


def fault(line, why):
    return [-6, line, why]


def points_of(told, count):
    """The first so many points of a text, as they are answered."""
    return ask(take(told), *[point(i) for i in range(count)])[1:]


def point_answer(town, street, number, letter, walk, place, code):
    return [0, town, street, number, letter, walk, place, len(code)] + as_bytes(code)


def text_answer(told):
    """A text as it is answered: how many bytes it has, then they."""
    return [len(told)] + as_bytes(told)


def find_by(answer):
    """The call, find or box, that asks for the point of which point answered this."""
    town, street, number, letter = answer[1:5]
    return box(town, number) if street == -1 else find(town, street, number, letter)


WORD = rb"[a-z0-9]{1,32}"
NAME = WORD + rb"(?: " + WORD + rb"){0,7}"
NUMBER = rb"(0|[1-9][0-9]*)"
STRETCH = NUMBER + rb" " + NUMBER + rb" ([a-z0-9]{1,12}) " + NUMBER + rb" " + NUMBER
FORMS = [
    ("names", re.compile(rb"(town|street) (" + NAME + rb"(?: \| " + NAME + rb")*)")),
    ("code", re.compile(rb"code ([a-z0-9]{1,12})")),
    ("span", re.compile(rb"span (all|odd|even) " + STRETCH + rb"( back)?")),
    ("letters", re.compile(rb"letters " + NUMBER + rb" ([a-z]) ([a-z])")),
    ("boxes", re.compile(rb"boxes " + STRETCH)),
]


class PlainJudge:
    """Judges a text by the document's words, number by number: slow, and written apart from the program.

    Its points are tuples: town, street, number, letter, walk, place, code.
    """

    def __init__(self, told):
        self.points = []
        self.town = -1
        self.street = -1
        self.street_begun = False
        self.codes = []
        self.names = {"town": [], "street": []}
        self.kinds = []
        self.places = set()
        self.fault = None
        rows = bytes(told).split(b"\n")
        unended = rows.pop()
        for row in rows:
            why = self.judge(row)
            if why:
                self.fault = (len(self.kinds), why)
                return
        if unended:
            self.fault = (len(self.kinds), NOT_FORMED)

    def judge(self, row):
        said = said_by(row)
        if said is None:
            return NOT_FORMED
        kind = said[0]
        if kind != "town" and self.town < 0:
            return CANNOT_STAND
        if kind in ("span", "letters") and not self.street_begun:
            return CANNOT_STAND
        if kind in ("span", "boxes"):
            why = self.judge_stretch(*said)
        elif kind == "letters":
            why = self.judge_letters(*said[1:])
        else:
            why = self.judge_head(*said)
        self.kinds.append(kind)
        if not why and self.is_beyond():
            why = TOO_MUCH
        if why:
            self.kinds.pop()
        return why

    def is_beyond(self):
        most = {"town": 512, "street": 1024, "code": 1024}
        return (len(self.kinds) > 4096 or len(self.points) > 65536
                or any(self.kinds.count(kind) > most[kind] for kind in most))

    def judge_head(self, kind, said):
        if kind == "code" and (self.town, said) in self.codes:
            return CLASHES
        if kind == "code":
            self.codes.append((self.town, said))
            return 0
        self.names[kind].append(said.split(" | "))
        if kind == "town":
            self.town += 1
        else:
            self.street += 1
        self.street_begun = kind == "street"
        return 0

    def judge_stretch(self, kind, numbers, code, walk, first, back):
        if (self.town, code) not in self.codes:
            return CANNOT_STAND
        street = self.street if kind == "span" else -1
        there = [p[2] for p in self.points if p[:2] == (self.town, street)]
        places = [first + k for k in range(len(numbers))]
        if set(there) & set(numbers) or self.places & {(walk, place) for place in places}:
            return CLASHES
        self.places |= {(walk, place) for place in places}
        if back:
            places.reverse()
        for number, place in zip(numbers, places):
            self.points.append((self.town, street, number, 0, walk, place, code))
        return 0

    def judge_letters(self, n, letters):
        there = [p for p in self.points if p[:3] == (self.town, self.street, n)]
        if not there:
            return CANNOT_STAND
        if {p[3] for p in there} & set(letters):
            return CLASHES
        for letter in letters:
            self.points.append(there[0][:3] + (letter,) + there[0][4:])
        return 0

    def sizes(self):
        kinds = ("town", "street", "code", "span", "letters", "boxes")
        return [self.kinds.count(kind) for kind in kinds] + [len(self.points), len(self.walks())]

    def walks(self):
        return sorted({p[4] for p in self.points})

    def find(self, town, street, number, letter):
        """The number of the point that is this; -3 if none is. A box's street is -1."""
        wanted = (town, street, number, letter)
        found = [i for i, p in enumerate(self.points) if p[:4] == wanted]
        assert len(found) <= 1
        return found[0] if found else -3

    def walk(self, w):
        """The numbers of the walk's points: by place, then the one without a letter, then by letter."""
        there = [(p[5], p[3], i) for i, p in enumerate(self.points) if p[4] == w]
        return [i for place, letter, i in sorted(there)]

    def parts(self, i):
        town, street, number, letter, code = (self.points[i][k] for k in (0, 1, 2, 3, 6))
        told = f"box {number}\n"
        if street != -1:
            told = f"number {number}{chr(96 + letter) if letter else ''}\nstreet {self.names['street'][street][0]}\n"
        return told + f"town {self.names['town'][town][0]}\ncode {code}\n"


def said_by(row):
    """What a row of bytes says: its kind and what stands behind it; None if it isn't formed so."""
    for kind, form in FORMS:
        match = form.fullmatch(row)
        if match:
            return in_bounds(kind, [part.decode() if part else "" for part in match.groups()])
    return None


def in_bounds(kind, parts):
    if kind == "names":
        return (parts[0], parts[1])
    if kind == "code":
        return ("code", parts[0])
    if kind == "letters":
        n = int(parts[0])
        letters = list(range(ord(parts[1]) - 96, ord(parts[2]) - 95))
        return ("letters", n, letters) if 1 <= n <= 99999 and letters else None
    side = parts.pop(0) if kind == "span" else "all"
    a, b, walk, first = (int(parts[k]) for k in (0, 1, 3, 4))
    if not (1 <= a <= b <= (99999 if kind == "span" else 999999) and walk <= 9999 and first <= 900000):
        return None
    rests = {"all": (0, 1), "odd": (1,), "even": (0,)}[side]
    if a % 2 not in rests or b % 2 not in rests:
        return None
    numbers = [n for n in range(a, b + 1) if n % 2 in rests]
    return (kind, numbers, parts[2], walk, first, parts[5:] == [" back"])
