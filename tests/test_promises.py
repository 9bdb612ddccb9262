"""The promises, on many directories that are made by chance, from written seeds."""

import random
import unittest

from tests.helper import (PlainJudge, as_bytes, ask, box, find, find_by, more, name, parts, point, point_answer, sizes,
                          take, text, text_answer, walk)


NAMES = ("s", "t", "t | s", "old t 1 | t | a b c d e f g h", "long lane")


def some_line(chance):
    """A line over few towns' codes, numbers and places, so that lines often meet; now and then one formed badly."""
    a = chance.randrange(1, 30)
    b = a + chance.randrange(0, 8)
    stretch = f"{a} {b} {chance.choice('cd')} {chance.randrange(3)} {chance.randrange(60)}"
    letters = sorted(chance.choice("abcdef") for k in range(2))
    line = chance.choice([
        "town " + chance.choice(NAMES), "code " + chance.choice("cd"), "code " + chance.choice("cd"),
        "street " + chance.choice(NAMES),
        "span all " + stretch, "span " + chance.choice(["odd ", "even "]) + stretch, "boxes " + stretch,
        "span all " + stretch + " back", f"letters {chance.randrange(1, 30)} {letters[0]} {letters[1]}"])
    if chance.randrange(60) == 0:
        at = chance.randrange(len(line))
        line = line[:at] + chance.choice(["", " ", "0", "|", "\n", "z", "\x80"]) + line[at + 1:]
    return line + "\n"


def some_directory(chance, tries):
    """A text that the plain judge finds without a fault, and texts of faults met on the way."""
    held = "town t\ncode c\nstreet s\n"
    faulty = []
    for k in range(tries):
        longer = held + some_line(chance)
        if PlainJudge(as_bytes(longer)).fault is None:
            held = longer
        else:
            faulty.append(longer)
    return held, faulty


def wanted_points(judge):
    return [point_answer(*found) for found in judge.points]


def ask_of(held, calls):
    """What calls, however many, answer of a text: asked in lists of at most 300."""
    told = []
    for begin in range(0, len(calls), 300):
        told += ask(take(held), *calls[begin:begin + 300])[1:]
    return told


def near_finds(judge, chance, tries):
    """What some points are, changed in one thing, so that most are no point; each with its letter told as it is."""
    near = []
    for k in range(tries if judge.points else 0):
        asked = list(chance.choice(judge.points)[:4])
        asked[chance.randrange(4)] = chance.randrange(-1, 40)
        if min(asked[0], asked[2], asked[3]) >= 0 and asked[3] <= 26:
            near.append(asked)
    return near


class Promises(unittest.TestCase):
    def test_1_a_text_is_a_directory_or_has_one_fault(self):
        for seed in range(40):
            held, faulty = some_directory(random.Random(seed), 60)
            judge = PlainJudge(as_bytes(held))
            told = ask(take(held), text(), sizes())
            self.assertEqual(told, [[0], [len(held)] + as_bytes(held), [0] + judge.sizes()])
            for longer in faulty:
                fault = PlainJudge(as_bytes(longer)).fault
                self.assertEqual(ask(take(longer)), [[-6, fault[0], fault[1]]], longer)

    def test_1_every_reason_is_met(self):
        whys = set()
        for seed in range(10):
            for longer in some_directory(random.Random(seed), 60)[1]:
                whys.add(PlainJudge(as_bytes(longer)).fault[1])
        self.assertEqual(whys, {1, 3, 4})

    def test_2_no_two_points_are_one(self):
        for seed in range(40):
            held = some_directory(random.Random(seed), 60)[0]
            wanted = wanted_points(PlainJudge(as_bytes(held)))
            told = ask_of(held, [point(i) for i in range(len(wanted) + 100)])
            found = told[:len(wanted)]
            self.assertEqual(found, wanted)
            self.assertTrue(all(answer == [-4] for answer in told[len(wanted):]))
            self.assertEqual(len({tuple(answer[1:5]) for answer in found}), len(found))
            plain = [tuple(answer[5:7]) for answer in found if answer[4] == 0]
            self.assertEqual(len(set(plain)), len(plain))

    def test_3_find_and_box_find_each_point_by_what_it_is(self):
        for seed in range(40):
            held = some_directory(random.Random(seed), 60)[0]
            count = len(PlainJudge(as_bytes(held)).points)
            told = ask_of(held, [point(i) for i in range(count)])
            found = ask_of(held, [find_by(answer) for answer in told])
            self.assertEqual(found, [[i] for i in range(count)])

    def test_3_and_only_it(self):
        missed = 0
        for seed in range(40):
            chance = random.Random(seed)
            held = some_directory(chance, 60)[0]
            judge = PlainJudge(as_bytes(held))
            near = near_finds(judge, chance, 400)
            calls = [box(asked[0], asked[2]) if asked[1] == -1 else find(*asked) for asked in near]
            wanted = [[judge.find(*asked[:3], 0 if asked[1] == -1 else asked[3])] for asked in near]
            self.assertEqual(ask_of(held, calls), wanted)
            missed += wanted.count([-3])
        self.assertGreater(missed, 1000)

    def test_4_walks_are_all_points_each_once_in_order(self):
        for seed in range(40):
            held = some_directory(random.Random(seed), 60)[0]
            judge = PlainJudge(as_bytes(held))
            told = ask_of(held, [walk(w) for w in range(5)])
            self.assertEqual([answer[1:] for answer in told], [judge.walk(w) for w in range(5)])
            self.assertEqual([answer[0] for answer in told], [len(answer) - 1 for answer in told])
            together = [i for answer in told for i in answer[1:]]
            self.assertEqual(sorted(together), list(range(len(judge.points))))

    def test_names_and_parts(self):
        for seed in range(40):
            held = some_directory(random.Random(seed), 60)[0]
            judge = PlainJudge(as_bytes(held))
            told = ask_of(held, [parts(i) for i in range(len(judge.points) + 1)])
            self.assertEqual(told, [text_answer(judge.parts(i)) for i in range(len(judge.points))] + [[-4]])
            for what, kind in ((0, "town"), (1, "street")):
                for i, names in enumerate(judge.names[kind]):
                    told = ask(take(held), *[name(what, i, j) for j in range(len(names) + 1)])
                    self.assertEqual(told[1:], [text_answer(one) for one in names] + [[-4]])
                self.assertEqual(ask(take(held), name(what, len(judge.names[kind]), 0))[1], [-4])

    def test_5_a_line_more_leaves_the_points_before_as_they_are(self):
        for seed in range(8):
            held = some_directory(random.Random(seed), 40)[0]
            whole = PlainJudge(as_bytes(held))
            points = wanted_points(whole)
            before = ""
            for line in held.splitlines(keepends=True):
                count = min(len(PlainJudge(as_bytes(before)).points), 60)
                calls = [call for i in range(count) for call in (point(i), find_by(points[i]), parts(i))]
                wanted = [told for i in range(count) for told in (points[i], [i], text_answer(whole.parts(i)))]
                told = ask(take(before), *calls, more(line), *calls)
                self.assertEqual(told, [[0]] + wanted + [[0]] + wanted)
                before += line

    def test_5_a_line_more_leaves_a_walks_points_in_their_order(self):
        for seed in range(8):
            held = some_directory(random.Random(seed), 40)[0]
            before = ""
            for line in held.splitlines(keepends=True):
                count = len(PlainJudge(as_bytes(before)).points)
                walks = [walk(w) for w in range(3)]
                told = ask(take(before), *walks, more(line), *walks)
                for earlier, later in zip(told[1:4], told[5:]):
                    self.assertEqual(earlier[1:], [i for i in later[1:] if i < count])
                before += line
