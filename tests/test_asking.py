"""The calls find, box, name, parts: what they answer, and each of their refusals."""

import unittest

from tests.helper import ask, box, fault, find, find_by, more, name, parts, point, point_answer, take, text_answer
from tests.sample import WHOLE, WHOLE_NAMES, WHOLE_POINTS

MOST = 4294967295
TOWN = "town t\ncode c\nstreet s\n"
# Behind these texts, which are refused, calls are asked too: what they speak of may not be told.
REFUSED = ("town t\ncode c\nstreet s\nspan all 1 9 c 0 0\nletters 1 a z\nboxes 1 9 c 1 0\nx\n", "town other | names")


class Asking(unittest.TestCase):
    def told(self, held, wanted):
        """That these calls are answered so: of a text that is taken, one behind a refusal, one that grew by more."""
        calls = [call for call, answer in wanted]
        answers = [answer for call, answer in wanted]
        lines = held.splitlines(keepends=True)
        half = len(lines) // 2
        self.assertEqual(ask(take(held), *calls), [[0]] + answers)
        behind = ask(take(held), take(REFUSED[0]), more("x\n"), take(REFUSED[1]), *calls)
        self.assertEqual([answer[0] for answer in behind[:4]], [0, -6, -6, -6])
        self.assertEqual(behind[4:], answers)
        grown = ask(take("".join(lines[:half])), more("".join(lines[half:])), *calls)
        self.assertEqual(grown, [[0], [0]] + answers)
        grown = ask(*[more(line) for line in lines], *calls)
        self.assertEqual(grown, [[0]] * len(lines) + answers)

    def told_of_no_lines(self, wanted):
        """That these calls are answered so by the object that is new, also behind a refusal, behind no lines taken."""
        calls = [call for call, answer in wanted]
        answers = [answer for call, answer in wanted]
        self.assertEqual(ask(*calls), answers)
        self.assertEqual(ask(take(REFUSED[0]), *calls), [fault(6, 1)] + answers)
        self.assertEqual(ask(more(REFUSED[1]), *calls), [fault(0, 1)] + answers)
        self.assertEqual(ask(take(WHOLE), take(""), *calls), [[0], [0]] + answers)


class Find(Asking):
    def test_every_point_of_a_directory(self):
        self.told(WHOLE, [(find(*answer[1:5]), [i]) for i, answer in enumerate(WHOLE_POINTS) if answer[2] != -1])

    def test_none_in_the_directory_of_no_lines(self):
        self.told_of_no_lines([(find(0, 0, 0, 0), [-3]), (find(0, 0, 1, 0), [-3]), (find(0, 0, 1, 26), [-3]),
                               (find(MOST, MOST, MOST, 26), [-3]), (find(0, 0, 1, 27), [-1]),
                               (find(MOST, MOST, MOST, MOST), [-1])])

    def test_a_letter_above_26_is_looked_at_first(self):
        self.told(WHOLE, [(find(*found, letter), [-1]) for letter in (27, 28, 97, 98, 255, 65536, MOST) for found in (
            (0, 0, 3), (0, 0, 1), (0, 0, 7), (0, 1, 3), (1, 0, 3), (2, 0, 3), (0, 3, 3), (MOST, MOST, MOST))])
        self.told(WHOLE, [(find(1, 2, 9, 26), [15]), (find(0, 0, 3, 26), [-3]), (find(MOST, 0, 3, 26), [-3])])

    def test_a_letter_that_the_number_has_not(self):
        self.told(WHOLE, [(find(0, 0, 3, letter), [{0: 1, 2: 3, 3: 4}.get(letter, -3)]) for letter in range(27)])
        self.told(WHOLE, [(find(0, 0, 1, letter), [0 if letter == 0 else -3]) for letter in range(27)])
        self.told(WHOLE, [(find(0, 1, 3, letter), [11 if letter == 0 else -3]) for letter in range(27)])

    def test_numbers_that_a_street_has_not(self):
        there = {1: 0, 3: 1, 5: 2, 2: 5, 4: 6, 6: 7}
        self.told(WHOLE, [(find(0, 0, n, 0), [there.get(n, -3)]) for n in list(range(20)) + [99999, 999999, MOST]])
        self.told(WHOLE, [(find(0, 0, n, 2), [3 if n == 3 else -3]) for n in list(range(20)) + [MOST]])

    def test_numbers_between_those_of_a_side(self):
        held = TOWN + "span odd 11 19 c 0 0\nspan even 30 38 c 1 0 back\nspan all 21 22 c 2 0\n"
        numbers = [11, 13, 15, 17, 19, 30, 32, 34, 36, 38, 21, 22]
        self.told(held, [(find(0, 0, n, 0), [numbers.index(n) if n in numbers else -3]) for n in range(8, 42)])

    def test_a_street_of_another_town(self):
        self.told(WHOLE, [(find(0, 2, 9, 0), [-3]), (find(1, 2, 9, 0), [14]), (find(2, 2, 9, 0), [-3]),
                          (find(1, 0, 3, 0), [-3]), (find(1, 1, 3, 0), [-3]), (find(0, 1, 3, 0), [11]),
                          (find(0, 2, 9, 26), [-3]), (find(1, 0, 3, 2), [-3])])

    def test_no_such_town_or_street(self):
        self.told(WHOLE, [(find(2, 0, 3, 0), [-3]), (find(MOST, 0, 3, 0), [-3]), (find(0, 3, 3, 0), [-3]),
                          (find(0, MOST, 3, 0), [-3]), (find(1, 3, 9, 0), [-3]), (find(MOST, 2, 9, 26), [-3])])

    def test_a_box_is_no_finds(self):
        for street in (0, 1, 2, 3, MOST):
            self.told(WHOLE, [(find(0, street, 10, 0), [-3]), (find(0, street, 12, 0), [-3]),
                              (find(1, street, 999999, 0), [-3])])
        self.told("town t\ncode c\nboxes 1 9 c 0 0\n", [(find(0, 0, 1, 0), [-3]), (find(0, MOST, 1, 0), [-3])])

    def test_streets_of_the_same_names(self):
        town = "town t\ncode c\n" + "street s\n"
        held = (town + "span all 1 3 c 0 0\nstreet s\nspan all 2 4 c 0 10 back\n" + town + "span all 1 4 c 1 0\n")
        self.told(held, [(find(0, 0, n, 0), [n - 1 if 1 <= n <= 3 else -3]) for n in range(6)]
                  + [(find(0, 1, n, 0), [n + 1 if 2 <= n <= 4 else -3]) for n in range(6)]
                  + [(find(1, 2, n, 0), [n + 5 if 1 <= n <= 4 else -3]) for n in range(6)])

    def test_letters_told_in_any_order(self):
        held = TOWN + "span even 2 20 c 0 0 back\nletters 8 x z\nletters 6 a b\nletters 8 a a\nletters 8 d e\n"
        there = {24: 10, 25: 11, 26: 12, 1: 15, 4: 16, 5: 17, 0: 3}
        self.told(held, [(find(0, 0, 8, letter), [there.get(letter, -3)]) for letter in range(27)])
        self.told(held, [(find(0, 0, 6, letter), [{0: 2, 1: 13, 2: 14}.get(letter, -3)]) for letter in range(27)])

    def test_the_last_points_of_a_full_directory(self):
        self.told(TOWN + "span all 34490 99999 c 9999 900000 back\nletters 99999 a z\n", [
            (find(0, 0, 34490, 0), [0]), (find(0, 0, 99999, 0), [65509]), (find(0, 0, 99999, 1), [65510]),
            (find(0, 0, 99999, 26), [65535]), (find(0, 0, 34489, 0), [-3]), (find(0, 0, 100000, 0), [-3])])


class Box(Asking):
    def test_every_box_of_a_directory(self):
        self.told(WHOLE, [(box(0, 10), [8]), (box(0, 11), [9]), (box(0, 12), [10]), (box(1, 999999), [13])])

    def test_none_in_the_directory_of_no_lines(self):
        self.told_of_no_lines([(box(0, 0), [-3]), (box(0, 1), [-3]), (box(MOST, MOST), [-3])])

    def test_none_of_this_town(self):
        self.told(WHOLE, [(box(0, n), [-3]) for n in (0, 1, 9, 13, 999999, MOST)]
                  + [(box(1, n), [-3]) for n in (0, 10, 11, 12, 999998, 1000000, MOST)])

    def test_no_such_town(self):
        self.told(WHOLE, [(box(town, n), [-3]) for town in (2, 3, MOST) for n in (10, 999999, MOST)])

    def test_a_streets_number_is_no_box(self):
        self.told(WHOLE, [(box(0, n), [-3]) for n in range(1, 7)] + [(box(1, 9), [-3])])

    def test_of_several_lines_and_towns(self):
        held = ("town t\ncode c\nboxes 50 59 c 0 0\nboxes 1 3 c 0 100\nstreet s\nspan all 20 29 c 1 0\n"
                "boxes 30 31 c 0 50\ntown t\ntown t\ncode c\nboxes 2 2 c 2 0\nboxes 55 55 c 2 1\n")
        there = dict(zip(list(range(50, 60)) + [1, 2, 3], range(13))) | {30: 23, 31: 24}
        self.told(held, [(box(0, n), [there.get(n, -3)]) for n in range(62)])
        self.told(held, [(box(1, n), [-3]) for n in range(62)])
        self.told(held, [(box(2, n), [{2: 25, 55: 26}.get(n, -3)]) for n in range(62)])

    def test_the_last_of_a_full_directory(self):
        self.told("town t\ncode c\nboxes 934464 999999 c 0 900000\n", [
            (box(0, 934464), [0]), (box(0, 999999), [65535]), (box(0, 934463), [-3]), (box(0, 1000000), [-3])])


class Name(Asking):
    def test_every_name_of_a_directory(self):
        self.told(WHOLE, [(name(what, i, j), text_answer(told)) for what in WHOLE_NAMES
                          for i, names in enumerate(WHOLE_NAMES[what]) for j, told in enumerate(names)])

    def test_the_words_as_bytes(self):
        self.told("town a b1 | 0\n", [(name(0, 0, 0), [4, 97, 32, 98, 49]), (name(0, 0, 1), [1, 48])])

    def test_none_in_the_directory_of_no_lines(self):
        self.told_of_no_lines([(name(0, 0, 0), [-4]), (name(1, 0, 0), [-4]), (name(0, MOST, MOST), [-4]),
                               (name(1, MOST, MOST), [-4]), (name(2, 0, 0), [-1]), (name(MOST, MOST, MOST), [-1])])

    def test_another_what_is_looked_at_first(self):
        self.told(WHOLE, [(name(what, i, j), [-1]) for what in (2, 3, 255, MOST) for i in (0, 1, 2, 3, MOST)
                          for j in (0, 1, 2, MOST)])

    def test_no_such_town_street_or_name(self):
        towns = ((0, 2), (0, MOST), (1, 1), (2, 0), (MOST, 0), (MOST, MOST))
        self.told(WHOLE, [(name(0, i, j), [-4]) for i, j in towns]
                  + [(name(1, i, j), [-4]) for i, j in ((0, 2), (1, 1), (2, 1), (3, 0), (MOST, 0), (2, MOST))])

    def test_names_of_several_words_and_later_names(self):
        eight = "a bc d e0 f g h 99"
        long_name = " ".join(["z" * 32] * 8)
        for kind, what, before in (("town", 0, ""), ("street", 1, "town t | u\n")):
            names = [eight, "x", eight, "town street", long_name, "x"]
            held = before + kind + " " + " | ".join(names) + "\n"
            self.told(held, [(name(what, 0, j), text_answer(told)) for j, told in enumerate(names)]
                      + [(name(what, 0, 6), [-4]), (name(what, 1, 0), [-4])])

    def test_streets_are_numbered_through_all_towns(self):
        held = ("town a\nstreet b | c\nstreet d\ntown e\ntown f | g h\ncode x\nstreet b\nboxes 1 1 x 0 0\n"
                "street i j | k\ntown a\nstreet l\n")
        streets = [["b", "c"], ["d"], ["b"], ["i j", "k"], ["l"]]
        towns = [["a"], ["e"], ["f", "g h"], ["a"]]
        wanted = []
        for what, named in ((0, towns), (1, streets)):
            for i in range(6):
                names = named[i] if i < len(named) else []
                wanted += [(name(what, i, j), text_answer(names[j]) if j < len(names) else [-4]) for j in range(3)]
        self.told(held, wanted)

    def test_the_last_town_street_and_name_that_there_may_be(self):
        held = "town t\n" * 511 + "town u\n" + "street s\n" * 1023 + "street v w\n"
        told = ask(take(held), name(0, 511, 0), name(0, 512, 0), name(1, 1023, 0), name(1, 1024, 0))
        self.assertEqual(told, [[0], text_answer("u"), [-4], text_answer("v w"), [-4]])
        told = ask(take("town a" + " | a" * 7000 + " | b c\n"), name(0, 0, 7001), name(0, 0, 7002), name(0, 0, 7000))
        self.assertEqual(told, [[0], text_answer("b c"), [-4], text_answer("a")])


class Parts(Asking):
    def test_points_of_a_directory(self):
        ends = "town alt dorf\ncode 12a\n", "town alt dorf\ncode 0\n", "town neu\ncode 12a\n"
        wanted = ["number 1\nstreet main street\n" + ends[0], "number 3\nstreet main street\n" + ends[0],
                  "number 5\nstreet main street\n" + ends[0], "number 3b\nstreet main street\n" + ends[0],
                  "number 3c\nstreet main street\n" + ends[0], "number 2\nstreet main street\n" + ends[1],
                  "number 4\nstreet main street\n" + ends[1], "number 6\nstreet main street\n" + ends[1],
                  "box 10\n" + ends[1], "box 11\n" + ends[1], "box 12\n" + ends[1], "number 3\nstreet lane\n" + ends[0],
                  "number 4\nstreet lane\n" + ends[0], "box 999999\n" + ends[2], "number 9\nstreet lane\n" + ends[2],
                  "number 9z\nstreet lane\n" + ends[2]]
        self.told(WHOLE, [(parts(i), text_answer(told)) for i, told in enumerate(wanted)] + [(parts(16), [-4])])

    def test_the_bytes(self):
        self.told("town a\ncode c0\nstreet b\nspan all 12 12 c0 0 0\nletters 12 d d\nboxes 7 7 c0 1 0\n", [
            (parts(0), [34, 110, 117, 109, 98, 101, 114, 32, 49, 50, 10, 115, 116, 114, 101, 101, 116, 32, 98, 10,
                        116, 111, 119, 110, 32, 97, 10, 99, 111, 100, 101, 32, 99, 48, 10]),
            (parts(1), text_answer("number 12d\nstreet b\ntown a\ncode c0\n")),
            (parts(2), text_answer("box 7\ntown a\ncode c0\n"))])

    def test_none_in_the_directory_of_no_lines(self):
        self.told_of_no_lines([(parts(0), [-4]), (parts(1), [-4]), (parts(MOST), [-4])])

    def test_none_past_the_last(self):
        self.told(WHOLE, [(parts(i), [-4]) for i in (16, 17, 65535, 65536, MOST)])
        self.told(TOWN, [(parts(0), [-4])])

    def test_every_letter(self):
        held = TOWN + "span all 99999 99999 c 0 0\nletters 99999 a z\n"
        signs = [""] + list("abcdefghijklmnopqrstuvwxyz")
        self.told(held, [(parts(i), text_answer(f"number 99999{sign}\nstreet s\ntown t\ncode c\n"))
                         for i, sign in enumerate(signs)])

    def test_the_first_of_several_names(self):
        held = ("town first town | second\ncode a\nstreet main road 1 | b road | c\nspan all 1 1 a 0 0\n"
                "boxes 1 1 a 0 1\ntown third | fourth town\ncode abcdefghijkl\nstreet d | e f\n"
                "span all 1 1 abcdefghijkl 0 2\nletters 1 q q\n")
        self.told(held, [
            (parts(0), text_answer("number 1\nstreet main road 1\ntown first town\ncode a\n")),
            (parts(1), text_answer("box 1\ntown first town\ncode a\n")),
            (parts(2), text_answer("number 1\nstreet d\ntown third\ncode abcdefghijkl\n")),
            (parts(3), text_answer("number 1q\nstreet d\ntown third\ncode abcdefghijkl\n"))])

    def test_the_longest(self):
        long_name = " ".join(["z" * 32] * 8)
        held = f"town {long_name}\ncode abcdefghijkl\nstreet {long_name}\nspan all 99999 99999 abcdefghijkl 0 0\n"
        wanted = f"number 99999\nstreet {long_name}\ntown {long_name}\ncode abcdefghijkl\n"
        self.told(held, [(parts(0), text_answer(wanted))])


class AnyOrder(unittest.TestCase):
    def test_point_then_find_and_box_on_one_object(self):
        calls = [call for i, answer in enumerate(WHOLE_POINTS) for call in (point(i), find_by(answer), parts(i))]
        told = ask(take(WHOLE), *calls, *reversed(calls))
        self.assertEqual(told[1:len(calls) + 1], told[:len(calls):-1])
        self.assertEqual(told[1:len(calls) + 1:3], WHOLE_POINTS)
        self.assertEqual(told[2:len(calls) + 1:3], [[i] for i in range(len(WHOLE_POINTS))])

    def test_between_takes(self):
        told = ask(find(0, 0, 1, 0), take(TOWN + "span all 1 1 c 0 0\n"), find(0, 0, 1, 0), box(0, 1), parts(0),
                   more("boxes 1 1 c 0 1\n"), box(0, 1), parts(1), find(0, 0, 1, 0), take("town u\ncode d\n"),
                   box(0, 1), find(0, 0, 1, 0), name(0, 0, 0), name(1, 0, 0), parts(0), more("boxes 1 1 d 0 0\n"),
                   box(0, 1), point(0))
        self.assertEqual(told, [
            [-3], [0], [0], [-3], text_answer("number 1\nstreet s\ntown t\ncode c\n"), [0], [1],
            text_answer("box 1\ntown t\ncode c\n"), [0], [0], [-3], [-3], text_answer("u"), [-4], [-4], [0], [0],
            point_answer(0, -1, 1, 0, 0, 0, "d")])
