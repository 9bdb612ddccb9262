"""How a directory's lines are formed: what a row of signs says as a line, or that it says none."""

MOST_WORDS = 8
MOST_WORD_SIGNS = 32
MOST_CODE_SIGNS = 12
MOST_NUMBER = 99999
MOST_BOX = 999999
MOST_WALK = 9999
MOST_FIRST = 900000
MOST_DIGITS = 6

NO_NUMBER = -1
NO_LETTER = 0
LETTERS = "abcdefghijklmnopqrstuvwxyz"


class Line:
    """A line formed well; what its kind of line doesn't tell stays as it's set here."""

    def __init__(self, kind):
        self.kind = kind
        self.names = []
        self.code = ""
        self.number = 0
        self.low = 0
        self.high = 0
        self.step = 1
        self.walk = 0
        self.first = 0
        self.back = False
        self.point_count = 0


def signs_of(text):
    """The bytes as signs; a byte that may stand in no line becomes a `?`, which may stand in none either."""
    signs = "?" * 10 + "\n" + "?" * 21 + " " + "?" * 15 + "0123456789" + "?" * 39
    signs = signs + LETTERS + "?" + "|" + "?" * 131
    return "".join([signs[byte] for byte in text])


def bytes_of(signs):
    """The signs as bytes."""
    return [ord(sign) for sign in signs]


def read_line(row):
    """The line that this row of signs, without its line feed, says; None if it isn't formed so."""
    words = row.split(" ")
    kind = words[0]
    told = words[1:]
    if kind == "town" or kind == "street":
        return read_names(kind, told)
    if kind == "code":
        return read_code(told)
    if kind == "span":
        return read_span(told)
    if kind == "letters":
        return read_letters(told)
    if kind == "boxes":
        return read_boxes(told)
    return None


def read_names(kind, told):
    """A town's or street's line of these words behind its first."""
    words_in_name = 0
    for word in told:
        if word == "|" and words_in_name > 0:
            words_in_name = 0
        elif is_word(word, MOST_WORD_SIGNS) and words_in_name < MOST_WORDS:
            words_in_name += 1
        else:
            return None
    if words_in_name == 0:
        return None
    line = Line(kind)
    line.names = " ".join(told).split(" | ")
    return line


def read_code(told):
    """A code's line of these words behind its first."""
    if len(told) != 1 or not is_word(told[0], MOST_CODE_SIGNS):
        return None
    line = Line("code")
    line.code = told[0]
    return line


def read_span(told):
    """A span's line of these words behind its first."""
    back = len(told) == 7 and told[6] == "back"
    if len(told) != 6 and not back:
        return None
    side = told[0]
    if side not in ("all", "odd", "even"):
        return None
    line = read_stretch("span", told[1:6], MOST_NUMBER)
    if line is None or not is_of_side(line.low, side) or not is_of_side(line.high, side):
        return None
    if side != "all":
        line.step = 2
    line.back = back
    line.point_count = (line.high - line.low) // line.step + 1
    return line


def read_boxes(told):
    """A line of boxes of these words behind its first."""
    if len(told) != 5:
        return None
    line = read_stretch("boxes", told, MOST_BOX)
    if line is None:
        return None
    line.point_count = line.high - line.low + 1
    return line


def read_stretch(kind, told, most):
    """A line of this kind with the five words that spans and boxes share: a b code walk first."""
    line = Line(kind)
    line.low = read_number(told[0], 1, most)
    line.high = read_number(told[1], 1, most)
    line.code = told[2]
    line.walk = read_number(told[3], 0, MOST_WALK)
    line.first = read_number(told[4], 0, MOST_FIRST)
    if NO_NUMBER in (line.low, line.high, line.walk, line.first):
        return None
    if line.low > line.high or not is_word(line.code, MOST_CODE_SIGNS):
        return None
    return line


def read_letters(told):
    """A line of letters of these words behind its first."""
    if len(told) != 3:
        return None
    line = Line("letters")
    line.number = read_number(told[0], 1, MOST_NUMBER)
    line.low = read_letter(told[1])
    line.high = read_letter(told[2])
    if line.number == NO_NUMBER or NO_LETTER in (line.low, line.high) or line.low > line.high:
        return None
    line.point_count = line.high - line.low + 1
    return line


def is_word(word, most):
    """Whether this is 1 to most of a to z, 0 to 9: the only letters and digits that signs_of gives."""
    return len(word) <= most and word.isalnum()


def is_of_side(number, side):
    """Whether a number is on this side of a street."""
    if side == "all":
        return True
    return number % 2 == (1 if side == "odd" else 0)


def read_number(word, least, most):
    """The number from least to most that this word is; NO_NUMBER if it's none."""
    # The length is looked at first: Python refuses to read a number of some thousand digits.
    if len(word) > MOST_DIGITS or not word.isdigit():
        return NO_NUMBER
    if word[0] == "0" and len(word) > 1:
        return NO_NUMBER
    number = int(word)
    if number < least or number > most:
        return NO_NUMBER
    return number


def read_letter(word):
    """The letter that this word is, 1 for a to 26 for z; NO_LETTER if it's none."""
    if len(word) != 1 or not word.isalpha():
        return NO_LETTER
    return ord(word) - ord("a") + 1


def letter_sign(letter):
    """The sign of a letter told as 1 for a to 26 for z; nothing for NO_LETTER."""
    return "" if letter == NO_LETTER else LETTERS[letter - 1]
