"""The promises 1, 2 and 5, on many directories that are made by chance, from written seeds."""

import random
import unittest

from tests.helper import PlainJudge, as_bytes, ask, more, point, point_answer, sizes, take, text


def some_line(chance):
    """A line over few towns' codes, numbers and places, so that lines often meet; now and then one formed badly."""
    a = chance.randrange(1, 30)
    b = a + chance.randrange(0, 8)
    stretch = f"{a} {b} {chance.choice('cd')} {chance.randrange(3)} {chance.randrange(60)}"
    letters = sorted(chance.choice("abcdef") for k in range(2))
    line = chance.choice([
        "town t", "code " + chance.choice("cd"), "code " + chance.choice("cd"), "street s",
        "span all " + stretch, "span " + chance.choice(["odd ", "even "]) + stretch, "boxes " + stretch,
        "span all " + stretch + " back", f"letters {chance.randrange(1, 30)} {letters[0]} {letters[1]}"])
    if chance.randrange(60) == 0:
        at = chance.randrange(len(line))
        line = line[:at] + chance.choice(["", " ", "0", "|", "\n", "z", "\x80"]) + line[at + 1:]
    return line + "\n"


def some_directory(chance, tries):
    """A text that the plain judge finds without a fault, and texts of faults met on the way."""
    held = "town t\ncode c\nstreet s\n"
    faulty = []
    for k in range(tries):
        longer = held + some_line(chance)
        if PlainJudge(as_bytes(longer)).fault is None:
            held = longer
        else:
            faulty.append(longer)
    return held, faulty


def wanted_points(judge):
    return [point_answer(*found) for found in judge.points]


class Promises(unittest.TestCase):
    def test_1_a_text_is_a_directory_or_has_one_fault(self):
        for seed in range(40):
            held, faulty = some_directory(random.Random(seed), 60)
            judge = PlainJudge(as_bytes(held))
            told = ask(take(held), text(), sizes())
            self.assertEqual(told, [[0], [len(held)] + as_bytes(held), [0] + judge.sizes()])
            for longer in faulty:
                fault = PlainJudge(as_bytes(longer)).fault
                self.assertEqual(ask(take(longer)), [[-6, fault[0], fault[1]]], longer)

    def test_1_every_reason_is_met(self):
        whys = set()
        for seed in range(10):
            for longer in some_directory(random.Random(seed), 60)[1]:
                whys.add(PlainJudge(as_bytes(longer)).fault[1])
        self.assertEqual(whys, {1, 3, 4})

    def test_2_no_two_points_are_one(self):
        for seed in range(40):
            held = some_directory(random.Random(seed), 60)[0]
            wanted = wanted_points(PlainJudge(as_bytes(held)))
            told = []
            for begin in range(0, len(wanted) + 1, 100):
                told += ask(take(held), *[point(i) for i in range(begin, begin + 100)])[1:]
            found = told[:len(wanted)]
            self.assertEqual(found, wanted)
            self.assertTrue(all(answer == [-4] for answer in told[len(wanted):]))
            self.assertEqual(len({tuple(answer[1:5]) for answer in found}), len(found))
            plain = [tuple(answer[5:7]) for answer in found if answer[4] == 0]
            self.assertEqual(len(set(plain)), len(plain))

    def test_5_a_line_more_leaves_the_points_before_as_they_are(self):
        for seed in range(8):
            held = some_directory(random.Random(seed), 40)[0]
            whole = wanted_points(PlainJudge(as_bytes(held)))
            before = ""
            for line in held.splitlines(keepends=True):
                count = len(PlainJudge(as_bytes(before)).points)
                calls = [point(i) for i in range(count)]
                told = ask(take(before), *calls, more(line), *calls)
                self.assertEqual(told, [[0]] + whole[:count] + [[0]] + whole[:count])
                before += line
