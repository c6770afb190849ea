"""The turned program, and the places of rows in it."""

import unittest

from cases import ADD, GOOD_ROWS, Q, QUESTION_SIGNS, R, SUM_SIGNS, program_of
from runcases import ENOUGH, Samples, ToldTest
from turnedrun import turning
from turnedrun.rows import checked
from turnedrun.running import run, run_back
from turnedrun.turning import mirrored, turned

PUSH = ("push", "x")
PULL = ("pull", "x")
LESS = ("put", "x", "-", (1,))
INNER = ("round", Q, [ADD, PUSH], [PULL, ("swap", "a", "b"), LESS], R)
INNER_TURNED = ("round", R, [PULL, LESS], [ADD, ("swap", "a", "b"), PUSH], Q)


def places(rows, place):
    """The places of all rows in rows, and the rows."""
    for number, row in enumerate(rows):
        yield (*place, number), row
        if row[0] in ("if", "round"):
            for side in (0, 1):
                yield from places(row[2 + side], (*place, number, side))


def all_places(program):
    """The places of all rows in a program, and the rows."""
    return [found for name, rows in program for found in places(rows, (name,))]


class TurnedTest(ToldTest):
    def assert_turned(self, program, wanted):
        with self.subTest(program=program):
            self.assert_exactly(self.told_by(turned, program), wanted)
            self.assert_exactly(self.told_by(turned, wanted), program)
            self.assertEqual(checked(program), checked(wanted))

    def test_a_put_has_the_other_sign(self):
        for sign in SUM_SIGNS:
            for first, second in (("y", 1), (2, "z"), (3, 4), ("y", "z")):
                the_sum = (sign, first, second)
                self.assert_turned(program_of(("put", "x", "+", the_sum)), program_of(("put", "x", "-", the_sum)))
        self.assert_turned(program_of(("put", "x", "-", ("y",))), program_of(("put", "x", "+", ("y",))))
        self.assert_turned(program_of(("put", "x", "-", (7,))), program_of(("put", "x", "+", (7,))))

    def test_push_is_pull_and_pull_is_push(self):
        self.assert_turned(program_of(PUSH), program_of(PULL))
        self.assert_turned(program_of(PULL), program_of(PUSH))

    def test_swap_call_and_undo_stay(self):
        for row in (("swap", "x", "y"), ("swap", "y", "x"), ("swap", "x", "x"), ("call", "main"), ("undo", "main")):
            self.assert_turned(program_of(row), program_of(row))

    def test_an_if_and_a_round_have_their_questions_exchanged(self):
        for word in ("if", "round"):
            for sign in QUESTION_SIGNS:
                for other in QUESTION_SIGNS:
                    first, last = (sign, "a", 1), (other, 2, "b")
                    self.assert_turned(program_of((word, first, [], [], last)), program_of((word, last, [], [], first)))

    def test_the_sides_stay_where_they_are_with_their_rows_turned(self):
        for word in ("if", "round"):
            row = (word, Q, [ADD, PUSH, ("swap", "a", "b")], [PUSH, ("call", "main")], R)
            wanted = (word, R, [("swap", "a", "b"), PULL, LESS], [("call", "main"), PULL], Q)
            self.assert_turned(program_of(row), program_of(wanted))
            self.assert_turned(program_of((word, Q, [ADD], [], R)), program_of((word, R, [LESS], [], Q)))
            self.assert_turned(program_of((word, Q, [], [PULL], R)), program_of((word, R, [], [PUSH], Q)))

    def test_rows_stand_in_the_other_order(self):
        self.assert_turned(program_of(ADD, PUSH, PULL, PULL), program_of(PUSH, PUSH, PULL, LESS))
        self.assert_turned(program_of(*GOOD_ROWS),
                           program_of(("undo", "main"), ("call", "main"), ("round", R, [], [], Q),
                                      ("if", R, [], [], Q), ("push", "x"), ("pull", "x"), ("swap", "x", "y"), LESS))

    def test_rows_within_rows(self):
        row = ("if", Q, [ADD, INNER], [INNER, INNER, PUSH], R)
        wanted = ("if", R, [INNER_TURNED, LESS], [PULL, INNER_TURNED, INNER_TURNED], Q)
        self.assert_turned(program_of(PUSH, row), program_of(wanted, PULL))
        for word in ("if", "round", "if", "round", "if"):
            row, wanted = (word, Q, [ADD, row], [row], R), (word, R, [wanted, LESS], [wanted], Q)
            self.assert_turned(program_of(row), program_of(wanted))

    def test_blocks_stay_in_their_order(self):
        program = [("b", [ADD, PUSH]), ("main", [("call", "a")]), ("a", []), ("c", [INNER, ADD])]
        wanted = [("b", [PULL, LESS]), ("main", [("call", "a")]), ("a", []), ("c", [LESS, INNER_TURNED])]
        self.assert_turned(program, wanted)

    def test_no_rows(self):
        self.assert_turned(program_of(), program_of())
        self.assert_turned([("a", []), ("b", [])], [("a", []), ("b", [])])

    def test_turned_twice_it_is_the_same(self):
        for seed in range(300):
            for program in (Samples(seed).any_program(), Samples(seed).leading_program()):
                self.assert_exactly(turned(turned(program)), program)

    def test_one_list_that_stands_in_several_places_is_told_as_several(self):
        rows = [ADD, PUSH]
        program = [("a", rows), ("b", [("if", Q, rows, rows, R)])]
        told = turned(program)
        lists = [told[0][1], told[1][1], told[1][1][0][2], told[1][1][0][3]]
        self.assertEqual(len({id(part) for part in (*lists, rows)}), 5)

    def test_the_functions_are_defined_in_the_file(self):
        for function in (turning.turned, turning.mirrored):
            self.assertEqual(function.__module__, "turnedrun.turning")


class MirroredTest(ToldTest):
    def assert_mirrored(self, program, place, wanted):
        with self.subTest(program=program, place=place):
            self.assert_exactly(self.told_by(mirrored, program, place), wanted)
            self.assert_exactly(self.told_by(mirrored, turned(program), wanted), place)

    def test_rows_of_a_block(self):
        program = program_of(ADD, PUSH, PULL, LESS)
        for number in range(4):
            self.assert_mirrored(program, ("main", number), ("main", 3 - number))
        self.assert_mirrored(program_of(ADD), ("main", 0), ("main", 0))

    def test_its_own_block_counts(self):
        program = [("a", [ADD] * 3), ("b", [ADD] * 5), ("c", [ADD])]
        self.assert_mirrored(program, ("a", 0), ("a", 2))
        self.assert_mirrored(program, ("b", 0), ("b", 4))
        self.assert_mirrored(program, ("b", 3), ("b", 1))
        self.assert_mirrored(program, ("c", 0), ("c", 0))

    def test_each_depth_counts_among_its_own_rows(self):
        for word in ("if", "round"):
            row = (word, Q, [ADD, ADD], [ADD, ADD, ADD, ADD, ADD], R)
            program = program_of(ADD, row, ADD, ADD)
            self.assert_mirrored(program, ("main", 1), ("main", 2))
            self.assert_mirrored(program, ("main", 1, 0, 0), ("main", 2, 0, 1))
            self.assert_mirrored(program, ("main", 1, 0, 1), ("main", 2, 0, 0))
            self.assert_mirrored(program, ("main", 1, 1, 0), ("main", 2, 1, 4))
            self.assert_mirrored(program, ("main", 1, 1, 2), ("main", 2, 1, 2))
            self.assert_mirrored(program, ("main", 1, 1, 3), ("main", 2, 1, 1))

    def test_8_levels(self):
        row, place, wanted = ADD, (0,), (2,)
        for level in range(7):
            side = level % 2
            rows = [ADD] * level + [row, PUSH, PUSH]
            row = ("if", Q, rows, [ADD], R) if side == 0 else ("round", Q, [], rows, R)
            place = (0, side, level, *place[1:])
            wanted = (2, side, 2, *wanted[1:])
            self.assert_mirrored(program_of(row, ADD, ADD), ("main", *place), ("main", *wanted))

    def test_the_row_there_is_the_turned_row(self):
        for seed in range(200):
            program = Samples(seed).any_program()
            rows = dict(all_places(program))
            turned_rows = dict(all_places(turned(program)))
            for place, row in rows.items():
                there = mirrored(program, place)
                self.assertEqual(turned([("main", [row])]), [("main", [turned_rows[there]])])
                self.assertEqual(mirrored(turned(program), there), place)
            self.assertEqual({mirrored(program, place) for place in rows}, set(turned_rows))


class TurnedRunTest(ToldTest):
    """The turned program run is the program run from behind, but for places; and the other way round."""

    def assert_alike(self, program, begun, most):
        for function, other in ((run, run_back), (run_back, run)):
            told = function(turned(program), *begun, most)
            wanted = other(program, *begun, most)
            self.assert_exactly(told[:4], wanted[:4])
            self.assertEqual(told[4] is None, wanted[4] is None)
            if wanted[4]:
                self.assertEqual(told[4], mirrored(program, wanted[4]))
            self.words[told[0]] = self.words.get(told[0], 0) + 1

    def test_any_rows(self):
        self.words = {}
        for seed in range(1500):
            samples = Samples(seed)
            program = samples.any_program()
            for most in (2, 5, 60):
                self.assert_alike(program, samples.begun(), most)
        for word in ("done", "long", "against", "deep"):
            self.assertGreater(self.words[word], 20)

    def test_rows_that_lead_back(self):
        self.words = {}
        for seed in range(200):
            samples = Samples(seed)
            self.assert_alike(samples.leading_program(), samples.begun("abcduv"), ENOUGH)
        self.assertGreater(self.words["done"], 300)

    def test_a_place_from_behind(self):
        program = program_of(ADD, PULL, LESS, LESS)
        self.assertEqual(run(program, {}, [], 9), ("against", {"x": 1}, [], 2, ("main", 1)))
        self.assertEqual(run_back(turned(program), {}, [], 9), ("against", {"x": 1}, [], 2, ("main", 2)))
        program = program_of(ADD, PUSH, LESS, LESS)
        self.assertEqual(run_back(program, {}, [], 9), ("against", {"x": 2}, [], 3, ("main", 1)))
        self.assertEqual(run(turned(program), {}, [], 9), ("against", {"x": 2}, [], 3, ("main", 2)))


if __name__ == "__main__":
    unittest.main()
