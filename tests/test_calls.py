"""The calls take, more, text, sizes, point: what they answer, and that a refused one leaves the object as it was."""

import unittest

from pointbook.directory import Holder
from tests.helper import (CANNOT_STAND, CLASHES, NOT_FORMED, TOO_MUCH, as_bytes, ask, box, fault, find, more, name,
                          parts, point, point_answer, points_of, sizes, take, text, text_answer, walk)
from tests.sample import WHOLE, WHOLE_POINTS, WHOLE_SIZES

NO_SIZES = [0] * 9


def look():
    """The calls that show what is held."""
    return ([text(), sizes()] + [point(i) for i in range(20)] + [parts(i) for i in (0, 3, 10, 11, 13, 15, 16)]
            + [walk(w) for w in (0, 1, 7, 8, 9999)] + [find(0, 0, 3, 0), find(0, 0, 3, 2), find(1, 2, 9, 26)]
            + [find(1, 2, 9, 1), find(1, 2, 9, 2), find(1, 2, 1, 0), box(0, 11), box(1, 1), box(1, 999999)]
            + [name(what, i, j) for what in (0, 1) for i in (0, 1, 2, 3) for j in (0, 1)])


LOOK = len(look())


class New(unittest.TestCase):
    def test_holds_the_directory_of_no_lines(self):
        self.assertEqual(ask(text(), sizes(), point(0)), [[0], NO_SIZES, [-4]])


class Take(unittest.TestCase):
    def test_holds_the_text_from_now_on(self):
        told = ask(take(WHOLE), text(), take("town t\n"), text(), sizes(), point(0))
        self.assertEqual(told, [[0], text_answer(WHOLE), [0], text_answer("town t\n"), [0, 1] + [0] * 7, [-4]])

    def test_no_lines(self):
        self.assertEqual(ask(take(WHOLE), take(""), text(), sizes(), point(0)), [[0], [0], [0], NO_SIZES, [-4]])

    def test_what_was_held_does_not_count(self):
        told = ask(take(WHOLE), take(WHOLE), sizes(), take("code b\n"), take("town t\n" * 512), take("town t\n" * 2))
        self.assertEqual(told, [[0], [0], WHOLE_SIZES, fault(0, CANNOT_STAND), [0], [0]])

    def test_refused_leaves_the_object_as_it_was(self):
        before = ask(take(WHOLE), *look())[1:]
        for refused, line, why in (
                ("x\n", 0, NOT_FORMED), ("town t", 0, NOT_FORMED), ("town t\ncode c\ncode c\n", 2, CLASHES),
                ("town t\nstreet s\nspan all 1 1 12a 0 0\n", 2, CANNOT_STAND), ("code c\n", 0, CANNOT_STAND),
                (WHOLE + "boxes 1 65536 12a 1 0\n", 16, TOO_MUCH), (WHOLE + "letters 9 a z\n", 16, CLASHES)):
            told = ask(take(WHOLE), take(refused), *look())
            self.assertEqual(told[1], fault(line, why))
            self.assertEqual(told[2:], before)

    def test_refused_leaves_a_new_object_as_it_was(self):
        self.assertEqual(ask(take("town t\nx\n"), text(), sizes(), point(0), more("code c\n")),
                         [fault(1, NOT_FORMED), [0], NO_SIZES, [-4], fault(0, CANNOT_STAND)])


class More(unittest.TestCase):
    def test_on_a_new_object(self):
        self.assertEqual(ask(more(WHOLE), text(), sizes()), [[0], text_answer(WHOLE), WHOLE_SIZES])

    def test_empty_text(self):
        self.assertEqual(ask(more(""), text(), sizes()), [[0], [0], NO_SIZES])
        told = ask(take(WHOLE), *look(), more(""), *look())
        self.assertEqual(told[LOOK + 1], [0])
        self.assertEqual(told[1:LOOK + 1], told[LOOK + 2:])

    def test_lines_need_what_is_held(self):
        parts = ["town t\n", "code c\n", "street s\n", "span odd 1 9 c 0 0\n", "letters 5 a b\n", "boxes 1 1 c 0 5\n",
                 "letters 5 c c\n", "span even 2 2 c 0 6\n"]
        told = ask(*[more(part) for part in parts], text(), sizes())
        self.assertEqual(told, [[0]] * 8 + [text_answer("".join(parts)), [0, 1, 1, 1, 2, 2, 1, 10, 1]])

    def test_lines_that_lack_what_they_need(self):
        for held, refused in (([], "code c\n"), (["town t\n"], "boxes 1 1 c 0 0\n"),
                              (["town t\n", "street s\n"], "span all 1 1 c 0 0\n"),
                              (["town t\n", "code c\n"], "span all 1 1 c 0 0\n"),
                              (["town t\n", "code c\n", "street s\n"], "letters 1 a a\n"),
                              (["town t\n", "code c\n", "street s\n", "span odd 1 9 c 0 0\n"], "letters 2 a a\n")):
            self.assertEqual(ask(*[more(part) for part in held], more(refused)),
                             [[0]] * len(held) + [fault(len(held), CANNOT_STAND)])

    def test_clashes_with_what_is_held(self):
        lines = WHOLE.count("\n")
        for refused, why in (
                ("code 12a\n", CLASHES), ("span all 9 9 12a 0 0\n", CLASHES), ("letters 9 y z\n", CLASHES),
                ("boxes 999999 999999 12a 0 0\n", CLASHES), ("boxes 1 1 12a 7 101\n", CLASHES),
                ("span all 1 1 12a 7 50\n", CLASHES), ("letters 1 a a\n", CANNOT_STAND),
                ("boxes 1 1 0 0 0\n", CANNOT_STAND), ("boxes 1 65521 12a 0 0\n", TOO_MUCH), ("\n", NOT_FORMED),
                ("town t", NOT_FORMED), (" ", NOT_FORMED)):
            self.assertEqual(ask(take(WHOLE), more(refused)), [[0], fault(lines, why)])

    def test_the_faults_line_is_counted_from_the_held_texts_first(self):
        told = ask(more(WHOLE), more("town u\n"), more("town v\ncode c\ncode c\n"), more("x\n"), more("code d\nx"))
        self.assertEqual(told, [[0], [0], fault(19, CLASHES), fault(17, NOT_FORMED), fault(18, NOT_FORMED)])

    def test_refused_leaves_the_object_as_it_was(self):
        for refused in ("code 1\ncode 2\ncode 1\n", "boxes 1 9 12a 1 0\nstreet s\nspan all 1 1 12a 1 5\n",
                        "letters 9 a b\nletters 9 b c\n", "town t", "town t\ncode 12a\nstreet s\nletters 9 a a\n",
                        "boxes 1 65520 12a 0 0\nletters 9 a a\n"):
            told = ask(take(WHOLE), *look(), more(refused), *look())
            self.assertEqual(told[LOOK + 1][0], -6)
            self.assertEqual(told[1:LOOK + 1], told[LOOK + 2:])

    def test_after_a_refusal_the_lines_are_still_free(self):
        free = "boxes 1 9 12a 1 0\nletters 9 b c\n"
        told = ask(take(WHOLE), more(free + "x\n"), more(free), sizes())
        self.assertEqual(told, [[0], fault(18, NOT_FORMED), [0], [0, 2, 3, 3, 4, 3, 3, 27, 4]])

    def test_is_as_take_of_both_texts(self):
        lines = WHOLE.splitlines(keepends=True)
        whole = ask(take(WHOLE), *look())[1:]
        for at in range(len(lines) + 1):
            told = ask(take("".join(lines[:at])), more("".join(lines[at:])), *look())
            self.assertEqual(told, [[0], [0]] + whole)


class TooLong(unittest.TestCase):
    most = "town aa" + " | a" * 16382 + "\n"

    def test_take(self):
        self.assertEqual(len(self.most), 65536)
        self.assertEqual(Holder().take(as_bytes(self.most)), [0])
        self.assertEqual(Holder().take(as_bytes("town aaa" + self.most[7:])), [-2])

    def test_is_looked_at_before_the_fault(self):
        self.assertEqual(Holder().take([0] * 65536), fault(0, NOT_FORMED))
        self.assertEqual(Holder().take([0] * 65537), [-2])
        self.assertEqual(Holder().take(as_bytes("\n" * 65537)), [-2])

    def test_more(self):
        holder = Holder()
        held = as_bytes("town t\n" + "town" + " a |" * 16380 + " a\n")
        self.assertEqual(len(held), 65534)
        self.assertEqual(holder.take(held), [0])
        sizes_before = holder.tell_sizes()
        self.assertEqual(holder.more([10, 10]), fault(2, NOT_FORMED))
        for longer in (as_bytes("x\nx"), as_bytes("code b\n"), [10] * 30000):
            self.assertEqual(holder.more(longer), [-2])
        self.assertEqual(holder.more([]), [0])
        self.assertEqual(holder.tell_text(), [65534] + held)
        self.assertEqual(holder.tell_sizes(), sizes_before)
        self.assertEqual(holder.tell_point(0), [-4])

    def test_more_up_to_the_last_byte(self):
        holder = Holder()
        self.assertEqual(holder.take(as_bytes("town aa" + " | a" * 16380 + "\n")), [0])
        self.assertEqual(holder.more(as_bytes("code bbb\n")), [-2])
        self.assertEqual(holder.more(as_bytes("code bb\n")), [0])
        self.assertEqual(holder.tell_text()[0], 65536)


class Text(unittest.TestCase):
    def test_what_is_told_is_taken_as_it(self):
        told = ask(take(WHOLE), *look())[1:]
        self.assertEqual(told[0], text_answer(WHOLE))
        self.assertEqual(ask(take(told[0][1:]), *look()), [[0]] + told)

    def test_grows_with_more(self):
        told = ask(more("town a | b\n"), text(), more("code c\n"), text())
        self.assertEqual(told, [[0], text_answer("town a | b\n"), [0], text_answer("town a | b\ncode c\n")])


class Sizes(unittest.TestCase):
    def test_all_eight(self):
        self.assertEqual(ask(take(WHOLE), sizes()), [[0], WHOLE_SIZES])

    def test_each_kind_of_line_alone(self):
        parts = [("town t\n", [1, 0, 0, 0, 0, 0, 0, 0]), ("code c\n", [1, 0, 1, 0, 0, 0, 0, 0]),
                 ("street s\n", [1, 1, 1, 0, 0, 0, 0, 0]), ("span all 5 9 c 3 0\n", [1, 1, 1, 1, 0, 0, 5, 1]),
                 ("letters 6 a z\n", [1, 1, 1, 1, 1, 0, 31, 1]), ("boxes 5 6 c 3 5\n", [1, 1, 1, 1, 1, 1, 33, 1]),
                 ("boxes 7 7 c 0 5\n", [1, 1, 1, 1, 1, 2, 34, 2]), ("town t\n", [2, 1, 1, 1, 1, 2, 34, 2]),
                 ("code c\n", [2, 1, 2, 1, 1, 2, 34, 2]), ("street s\n", [2, 2, 2, 1, 1, 2, 34, 2]),
                 ("span odd 1 9 c 9999 0\n", [2, 2, 2, 2, 1, 2, 39, 3]),
                 ("span even 2 8 c 0 9 back\n", [2, 2, 2, 3, 1, 2, 43, 3])]
        held = ""
        for part, wanted in parts:
            held += part
            self.assertEqual(ask(take(held), sizes()), [[0], [0] + wanted])

    def test_at_the_bounds(self):
        told = ask(take("town t\ncode c\nstreet s\nspan all 1 65510 c 0 0\nletters 65510 a z\n"), sizes())
        self.assertEqual(told[1], [0, 1, 1, 1, 1, 1, 0, 65536, 1])


class Point(unittest.TestCase):
    def test_every_point_of_a_directory(self):
        self.assertEqual(points_of(WHOLE, 17), WHOLE_POINTS + [[-4]])

    def test_none_past_the_last(self):
        told = ask(take(WHOLE), point(15), point(16), point(17), point(65535), point(4294967295))
        self.assertEqual(told, [[0], WHOLE_POINTS[15], [-4], [-4], [-4], [-4]])

    def test_spans_of_each_side(self):
        town = "town t\ncode abcdefghijkl\nstreet s\n"
        for side, numbers in (("all 3 7", [3, 4, 5, 6, 7]), ("odd 3 7", [3, 5, 7]), ("even 4 8", [4, 6, 8]),
                              ("odd 9 9", [9]), ("even 8 8", [8]), ("all 8 8", [8])):
            places = [20 + k for k in range(len(numbers))]
            for behind, wanted in (("", places), (" back", places[::-1])):
                told = points_of(town + f"span {side} abcdefghijkl 5 20{behind}\n", len(numbers) + 1)
                self.assertEqual(told[:-1], [point_answer(0, 0, n, 0, 5, place, "abcdefghijkl")
                                             for n, place in zip(numbers, wanted)])
                self.assertEqual(told[-1], [-4])

    def test_letters_stand_where_their_number_stands(self):
        town = "town t\ncode c\ncode d\nstreet s\n"
        spans = "span even 2 20 c 5 20 back\nspan odd 1 19 d 6 40\n"
        told = points_of(town + spans + "letters 8 a c\nletters 9 x z\nletters 8 d d\n", 27)[20:]
        self.assertEqual(told, [point_answer(0, 0, 8, letter, 5, 26, "c") for letter in (1, 2, 3)]
                         + [point_answer(0, 0, 9, letter, 6, 44, "d") for letter in (24, 25, 26)]
                         + [point_answer(0, 0, 8, 4, 5, 26, "c")])

    def test_order_is_by_lines_not_by_places_or_numbers(self):
        town = "town t\ncode c\nstreet s\n"
        told = points_of(town + "boxes 8 9 c 1 50\nspan all 5 5 c 1 7\nletters 5 c d\nspan all 1 2 c 1 0\n"
                         "letters 5 a b\nboxes 1 1 c 1 2\n", 11)
        self.assertEqual([answer[2:5] for answer in told], [
            [-1, 8, 0], [-1, 9, 0], [0, 5, 0], [0, 5, 3], [0, 5, 4], [0, 1, 0], [0, 2, 0], [0, 5, 1], [0, 5, 2],
            [-1, 1, 0], []])

    def test_towns_and_streets_are_numbered_as_they_stand(self):
        told = points_of("town a\nstreet s\ntown a\ncode c\nboxes 1 1 c 0 0\nstreet s\nstreet s\n"
                         "span all 1 1 c 0 1\ntown b\ntown c\ncode c\nstreet s\nspan all 1 1 c 0 2\n"
                         "boxes 1 1 c 0 3\n", 4)
        self.assertEqual([answer[1:3] for answer in told], [[1, -1], [1, 2], [3, 3], [3, -1]])

    def test_last_points_of_full_directories(self):
        town = "town t\ncode c\nstreet s\n"
        told = ask(take(town + "span all 34464 99999 c 9999 900000 back\n"), point(0), point(65535), point(65536))
        self.assertEqual(told[1:], [point_answer(0, 0, 34464, 0, 9999, 965535, "c"),
                                    point_answer(0, 0, 99999, 0, 9999, 900000, "c"), [-4]])
        told = ask(take(town + "boxes 934464 999999 c 9999 900000\n"), point(0), point(65535), point(65536))
        self.assertEqual(told[1:], [point_answer(0, -1, 934464, 0, 9999, 900000, "c"),
                                    point_answer(0, -1, 999999, 0, 9999, 965535, "c"), [-4]])
