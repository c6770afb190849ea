"""What the tests of runs share: how what is told is looked at, and many programs to try."""

import random
import unittest

from cases import copied
from turnedrun.rows import checked
from turnedrun.running import run, run_back

ENOUGH = 100000


def exactly(thing, other):
    """Whether two things are alike and of one kind at every depth; True is not 1, and dicts have no order."""
    if type(thing) is not type(other):
        return False
    if type(thing) in (list, tuple):
        return len(thing) == len(other) and all(exactly(a, b) for a, b in zip(thing, other))
    if type(thing) is dict:
        return set(thing) == set(other) and all(exactly(thing[key], other[key]) for key in thing)
    return thing == other


def held_parts(thing):
    """Every list and dict in a thing, at every depth."""
    found = [thing] if isinstance(thing, (list, dict)) else []
    parts = thing.values() if isinstance(thing, dict) else thing if isinstance(thing, (list, tuple)) else ()
    for part in parts:
        found.extend(held_parts(part))
    return found


def spoiled(thing):
    """Change every list and dict in a thing."""
    for part in held_parts(thing):
        if isinstance(part, list):
            part.append("spoiled")
        else:
            part["spoiled"] = 1


class ToldTest(unittest.TestCase):
    """Ways to ask for what is told; each one looks whether what is handed in stays, and what is told is new."""

    def assert_exactly(self, told, wanted):
        self.assertTrue(exactly(told, wanted), f"{told} is not {wanted}")

    def told_by(self, function, *handed):
        """What a function tells, twice and alike; what the caller does to it changes nothing."""
        kept = copied(handed)
        first = function(*handed)
        self.assert_exactly(handed, kept)
        told = copied(first)
        old = {id(part) for part in held_parts(handed)}
        parts = held_parts(first)
        self.assertFalse([part for part in parts if id(part) in old])
        self.assertEqual(len({id(part) for part in parts}), len(parts))
        spoiled(first)
        self.assert_exactly(handed, kept)
        self.assert_exactly(function(*handed), told)
        return told

    def assert_run(self, program, begun, most, wanted):
        """The run from the boxes and pile that are begun with tells what is wanted."""
        self.assert_told(run, program, begun, most, wanted)

    def assert_run_back(self, program, begun, most, wanted):
        self.assert_told(run_back, program, begun, most, wanted)

    def assert_told(self, function, program, begun, most, wanted):
        with self.subTest(function=function.__name__, program=program, begun=begun, most=most):
            checked(program)
            self.assert_exactly(self.told_by(function, program, *begun, most), wanted)

    def assert_both_ways(self, program, begun, ended, steps):
        """Run, the program leads from begun to ended, and from behind the other way, by these steps."""
        for function, start, goal in ((run, begun, ended), (run_back, ended, begun)):
            boxes = {name: goal[0][name] for name in goal[0] if goal[0][name]}
            self.assert_told(function, program, start, ENOUGH, ("done", boxes, goal[1], steps, None))
            self.assert_told(function, program, start, steps, ("done", boxes, goal[1], steps, None))
            if steps:
                told = function(program, *start, steps - 1)
                self.assertEqual((told[0], told[3], told[4]), ("long", steps - 1, None))


class Samples:
    """Good programs, boxes and piles, the same ones at each run of the tests."""

    def __init__(self, seed):
        self.chance = random.Random(seed)

    def thing(self, names):
        if names and self.chance.random() < 0.6:
            return self.chance.choice(names)
        return self.chance.choice((0, 1, 1, 2, 3, 7, 999999))

    def question(self, names):
        return self.chance.choice(("<", "=", ">=", "!=")), self.thing(names), self.thing(names)

    def sum(self, names):
        if self.chance.random() < 0.3:
            return (self.thing(names),)
        return self.chance.choice(("+", "-", "*", "<", "=", ">=", "!=")), self.thing(names), self.thing(names)

    def put(self, names):
        name = self.chance.choice(names)
        return "put", name, self.chance.choice(("+", "-")), self.sum([other for other in names if other != name])

    def begun(self, names="abcd"):
        """Boxes and a pile."""
        boxes = {name: self.chance.choice((0, 1, 2, 5, 999998)) for name in names if self.chance.random() < 0.6}
        return boxes, [self.chance.randrange(5) for _ in range(self.chance.randrange(4))]

    def any_rows(self, depth, blocks):
        """Rows of every kind, of which many end against themselves."""
        return [self.any_row(depth, blocks) for _ in range(self.chance.randrange(4))]

    def any_row(self, depth, blocks):
        names = ["a", "b", "c", "d"]
        word = self.chance.choice(("put", "put", "swap", "push", "pull", "call", "undo", "if", "round"))
        if word in ("if", "round") and depth > 1:
            sides = self.any_rows(depth - 1, blocks), self.any_rows(depth - 1, blocks)
            return word, self.question(names), *sides, self.question(names)
        if word in ("call", "undo"):
            return word, self.chance.choice(blocks)
        if word == "swap":
            return word, self.chance.choice(names), self.chance.choice(names)
        if word in ("push", "pull"):
            return word, self.chance.choice(names)
        return self.put(names)

    def any_program(self):
        blocks = ["main", "b", "c"][:self.chance.randrange(1, 4)]
        return [(name, self.any_rows(3, blocks)) for name in blocks]

    def leading_rows(self, depth, block, others):
        """Rows of every kind that are done from any boxes, and so lead back."""
        return [row for _ in range(self.chance.randrange(1, 4)) for row in self.leading(depth, block, others)]

    def leading(self, depth, block, others):
        names = ["a", "b", "c", "d"]
        word = self.chance.choice(("put", "put", "swap", "push", "pull", "call", "undo", "if", "round"))
        if word == "if" and depth > 1:
            steady = self.question(["u", "v"])
            sides = self.leading_rows(depth - 1, block, others), self.leading_rows(depth - 1, block, others)
            return [(word, steady, *sides, steady)]
        if word == "round" and depth > 1:
            # Each level of each block has a count of its own, which holds 0 ahead of the round and behind it.
            count = f"{block[0]}{depth}"
            times = self.chance.randrange(4)
            body = self.leading_rows(depth - 1, block, others)
            back = [*self.leading_rows(depth - 1, block, others), ("put", count, "+", (1,))]
            return [(word, ("=", count, 0), body, back, ("=", count, times)), ("put", count, "-", (times,))]
        if word in ("call", "undo") and others:
            return [(word, self.chance.choice(others))]
        if word == "swap":
            return [(word, self.chance.choice(names), self.chance.choice(names))]
        if word in ("push", "pull"):
            name = self.chance.choice(names)
            # A push alone is not always done from behind, so it stands in no block that may be undone.
            return [("push", name), *([("pull", name)] if word == "pull" or block != "main" else [])]
        return [self.put(names)]

    def leading_program(self):
        """Each block calls later ones only."""
        return [("main", self.leading_rows(4, "main", ["second", "last"])),
                ("second", self.leading_rows(3, "second", ["last"])), ("last", self.leading_rows(2, "last", []))]

    def plain_rows(self, depth, loops=0):
        """Plain rows; each while counts down a box of its own, so all of them are done."""
        rows = []
        for _ in range(self.chance.randrange(1, 4)):
            word = self.chance.choice(("set", "set", "set", "if", "while"))
            rows.extend(self.plain(word if depth > 1 else "set", depth, loops))
        return rows

    def plain(self, word, depth, loops):
        names = ["a", "b", "c", "d"]
        if word == "if":
            return [(word, self.question(names), self.plain_rows(depth - 1, loops), self.plain_rows(depth - 1, loops))]
        if word == "while":
            count = "ijklmn"[loops]
            less = ("set", count, ("-", count, 1))
            body = [*self.plain_rows(depth - 1, loops + 1), less]
            return [("set", count, (self.chance.randrange(4),)), (word, ("!=", count, 0), body)]
        return [("set", self.chance.choice(names), self.sum(names))]
