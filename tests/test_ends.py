"""The ends of runs that are not done: their words, boxes, steps and places."""

import unittest

from cases import program_of
from runcases import ENOUGH, ToldTest
from turnedrun.running import run, run_back

NOTHING = ({}, [])
STEADY = ("=", "u", 0)
NEVER = ("=", "u", 1)
ADD = ("put", "x", "+", (1,))
QUIET = ("swap", "q", "q")


def wrapped(row, back):
    """Rows with a row among them or within them, the row's place behind its block, and the steps ahead of it.

    The steps are those of rows that are done from behind where back is True.
    """
    yield [row], (0,), 0
    yield [QUIET, QUIET, row, QUIET, QUIET, QUIET], (2,), 3 if back else 2
    yield [("if", STEADY, [QUIET, row], [], STEADY)], (0, 0, 1), 1 if back else 2
    yield [("if", NEVER, [], [row, QUIET], NEVER)], (0, 1, 0), 2 if back else 1
    yield [("round", STEADY, [row], [], STEADY)], (0, 0, 0), 1
    if back:
        yield [("round", ("=", "i", 1), [], [("put", "i", "-", (1,)), row], ("=", "i", 0))], (0, 1, 1), 2
    else:
        yield [("round", ("=", "i", 0), [], [row, ("put", "i", "+", (1,))], ("=", "i", 1))], (0, 1, 0), 2
    deep = ("round", STEADY, [QUIET, QUIET, row], [], STEADY)
    yield [("if", NEVER, [], [deep, QUIET], NEVER)], (0, 1, 0, 0, 2), 3 if back else 4


def ways(rows, back):
    """Programs that do the rows in this direction, the function that runs each, the block, and the steps ahead."""
    yield run_back if back else run, program_of(*rows), "main", 0
    yield run_back if back else run, [("main", [("call", "a")]), ("a", rows)], "a", 1
    yield run if back else run_back, [("main", [("undo", "a"), QUIET]), ("a", rows)], "a", 1 if back else 2
    blocks = [("main", [("call", "a")]), ("b", rows), ("a", [("undo", "c")]), ("c", [("undo", "b")])]
    yield run_back if back else run, blocks, "b", 3


class LongTest(ToldTest):
    def assert_long(self, function, program, begun, states):
        """As many steps as it may make lead to each state in turn, the last of which is the done one."""
        for most, (boxes, pile) in enumerate(states):
            word = "done" if most == len(states) - 1 else "long"
            self.assert_told(function, program, begun, most, (word, boxes, pile, most, None))
        for most in (len(states), ENOUGH):
            self.assert_told(function, program, begun, most, ("done", *states[-1], len(states) - 1, None))

    def test_each_row_that_is_one_step(self):
        self.assert_long(run, program_of(ADD), NOTHING, [({}, []), ({"x": 1}, [])])
        self.assert_long(run, program_of(("swap", "x", "y")), ({"x": 1}, []), [({"x": 1}, []), ({"y": 1}, [])])
        self.assert_long(run, program_of(("push", "x")), ({"x": 1}, []), [({"x": 1}, []), ({}, [1])])
        self.assert_long(run, program_of(("pull", "x")), ({}, [1]), [({}, [1]), ({"x": 1}, [])])
        self.assert_long(run_back, program_of(ADD), ({"x": 1}, []), [({"x": 1}, []), ({}, [])])
        self.assert_long(run_back, program_of(("push", "x")), ({}, [1]), [({}, [1]), ({"x": 1}, [])])

    def test_rows_one_by_one(self):
        program = program_of(ADD, ("push", "x"), ("put", "x", "+", (5,)), ("swap", "x", "y"))
        states = [({}, []), ({"x": 1}, []), ({}, [1]), ({"x": 5}, [1]), ({"y": 5}, [1])]
        self.assert_long(run, program, NOTHING, states)
        self.assert_long(run_back, program, states[-1], states[::-1])

    def test_each_question_of_an_if_is_a_step(self):
        program = program_of(("if", STEADY, [ADD], [], STEADY), ADD)
        states = [({}, []), ({}, []), ({"x": 1}, []), ({"x": 1}, []), ({"x": 2}, [])]
        self.assert_long(run, program, NOTHING, states)
        self.assert_long(run_back, program, states[-1], states[::-1])

    def test_each_question_of_a_round_is_a_step(self):
        row = ("round", ("=", "i", 0), [ADD], [("put", "i", "+", (1,))], ("=", "i", 2))
        boxes = [{}, {}, {"x": 1}, {"x": 1}, {"i": 1, "x": 1}, {"i": 1, "x": 1}, {"i": 1, "x": 2}, {"i": 1, "x": 2},
                 {"i": 2, "x": 2}, {"i": 2, "x": 2}, {"i": 2, "x": 3}, {"i": 2, "x": 3}]
        states = [(told, []) for told in boxes]
        self.assert_long(run, program_of(row), NOTHING, states)
        self.assert_long(run_back, program_of(row), states[-1], states[::-1])

    def test_a_call_and_an_undo_are_a_step_each_besides_those_of_their_rows(self):
        program = [("main", [("call", "a"), ("undo", "a")]), ("a", [ADD])]
        states = [({}, []), ({}, []), ({"x": 1}, []), ({"x": 1}, []), ({}, [])]
        self.assert_long(run, program, NOTHING, states)
        program = [("main", [("call", "none"), ("undo", "none"), ADD]), ("none", [])]
        self.assert_long(run, program, NOTHING, [({}, []), ({}, []), ({}, []), ({"x": 1}, [])])
        self.assert_long(run_back, program, ({"x": 1}, []), [({"x": 1}, []), ({}, []), ({}, []), ({}, [])])

    def test_a_round_that_is_never_over(self):
        row = ("round", ("=", "i", 0), [ADD], [("put", "i", "+", (1,))], ("=", 0, 1))
        states = ((0, {}), (1, {}), (2, {"x": 1}), (3, {"x": 1}), (4, {"i": 1, "x": 1}), (5, {"i": 1, "x": 1}),
                  (6, {"i": 1, "x": 2}), (4002, {"i": 1000, "x": 1001}))
        for most, boxes in states:
            self.assert_run(program_of(row), NOTHING, most, ("long", boxes, [], most, None))

    def test_it_comes_ahead_of_what_the_wanted_step_would_end_with(self):
        self.assert_run(program_of(("pull", "x")), NOTHING, 0, ("long", {}, [], 0, None))
        self.assert_run(program_of(("round", ("=", 0, 1), [], [], STEADY)), NOTHING, 0, ("long", {}, [], 0, None))
        self.assert_run(program_of(("if", STEADY, [], [], ("=", 0, 1))), NOTHING, 1, ("long", {}, [], 1, None))
        self.assert_run(program_of(("call", "main")), NOTHING, 10, ("long", {}, [], 10, None))


class AgainstTest(ToldTest):
    def assert_against(self, row, back, begun, ended, steps):
        """The row ends the run as its own last step, at its place, wherever it stands and is called from."""
        for rows, place, ahead in wrapped(row, back):
            for function, program, block, called in ways(rows, back):
                many = steps + ahead + called
                wanted = ("against", *ended, many, (block, *place))
                self.assert_told(function, program, begun, ENOUGH, wanted)
                self.assert_told(function, program, begun, many, wanted)
                word, _, _, steps_made, no_place = function(program, *begun, many - 1)
                self.assertEqual((word, steps_made, no_place), ("long", many - 1, None))

    def test_a_pull_into_a_box_that_does_not_hold_0(self):
        for row, back in ((("pull", "x"), False), (("push", "x"), True)):
            self.assert_against(row, back, ({"x": 4}, [1, 2]), ({"x": 4}, [1, 2]), 1)
            self.assert_against(row, back, ({"x": 1}, [0]), ({"x": 1}, [0]), 1)

    def test_a_pull_of_an_empty_pile(self):
        for row, back in ((("pull", "x"), False), (("push", "x"), True)):
            self.assert_against(row, back, ({"y": 1}, []), ({"y": 1}, []), 1)
            self.assert_against(row, back, ({"x": 0}, []), ({}, []), 1)
            self.assert_against(row, back, ({"x": 4}, []), ({"x": 4}, []), 1)

    def test_a_push_forth_and_a_pull_from_behind_are_never_against(self):
        for function, word in ((run, "push"), (run_back, "pull")):
            for boxes in ({}, {"x": 4}):
                for pile in ([], [7]):
                    wanted = ("done", {}, [*pile, boxes.get("x", 0)], 1, None)
                    self.assert_told(function, program_of((word, "x")), (boxes, pile), 1, wanted)

    def test_the_first_question_of_a_round(self):
        row = ("round", ("=", "x", 0), [ADD], [ADD], (">=", "x", 0))
        self.assert_against(row, False, ({"x": 3}, []), ({"x": 3}, []), 1)
        row = ("round", (">=", "x", 0), [ADD], [ADD], ("=", "x", 0))
        self.assert_against(row, True, ({"x": 3}, []), ({"x": 3}, []), 1)

    def test_the_last_question_of_an_if(self):
        row = ("if", ("=", "x", 0), [ADD], [ADD], ("=", "x", 0))
        self.assert_against(row, False, NOTHING, ({"x": 1}, []), 3)
        self.assert_against(row, False, ({"x": 999999}, []), ({}, []), 3)
        self.assert_against(row, True, NOTHING, ({"x": 999999}, []), 3)
        self.assert_against(row, True, ({"x": 1}, []), ({}, []), 3)

    def test_the_first_question_of_a_round_asked_again_behind_one_turn(self):
        row = ("round", ("<", "x", 3), [ADD], [ADD], ("=", "x", 9))
        self.assert_against(row, False, NOTHING, ({"x": 2}, []), 5)
        row = ("round", ("=", "x", 9), [("put", "x", "-", (1,))], [("put", "x", "-", (1,))], ("<", "x", 3))
        self.assert_against(row, True, NOTHING, ({"x": 2}, []), 5)

    def test_the_first_question_of_a_round_asked_again_behind_two_turns(self):
        row = ("round", ("=", "x", 5), [("put", "y", "+", (1,))], [("swap", "x", "z")], ("=", "y", 9))
        self.assert_against(row, False, ({"x": 5}, []), ({"x": 5, "y": 2}, []), 9)
        row = ("round", ("=", "y", 9), [("put", "y", "-", (1,))], [("swap", "x", "z")], ("=", "x", 5))
        self.assert_against(row, True, ({"x": 5}, []), ({"x": 5, "y": 2}, []), 9)

    def test_nothing_that_rows_did_ahead_of_it_is_taken_back(self):
        program = program_of(("put", "y", "+", (4,)), ("push", "y"), ADD, ("pull", "x"), ADD)
        self.assert_run(program, NOTHING, 9, ("against", {"x": 1}, [4], 4, ("main", 3)))
        program = program_of(ADD, ("push", "x"), ("put", "x", "-", (1,)), ("pull", "y"), ("put", "y", "-", (4,)))
        self.assert_run_back(program, NOTHING, 9, ("against", {"x": 1}, [4], 4, ("main", 1)))

    def test_of_a_row_and_the_row_around_it_the_inner_one_has_the_place(self):
        row = ("if", STEADY, [("put", "u", "+", (1,)), ("if", STEADY, [], [ADD], STEADY), ("pull", "u")], [], STEADY)
        self.assert_run(program_of(ADD, row), NOTHING, 99, ("against", {"u": 1, "x": 2}, [], 7, ("main", 1, 0, 2)))


class DeepTest(ToldTest):
    def chained(self, many, word="call", last=ADD):
        """Blocks each of which calls the next one."""
        rows = [[(word, f"b{number + 1}")] for number in range(many)]
        return [(f"b{number}", row) for number, row in enumerate([*rows, [last]])]

    def test_ten_calls_within_one_another_are_done(self):
        self.assert_both_ways(self.chained(10), NOTHING, ({"x": 1}, []), 11)
        self.assert_both_ways(self.chained(10, "undo"), NOTHING, ({"x": 1}, []), 11)
        self.assert_both_ways(self.chained(9, "undo"), NOTHING, ({"x": 999999}, []), 10)

    def test_the_eleventh_is_too_deep(self):
        for function in (run, run_back):
            for word in ("call", "undo"):
                wanted = ("deep", {}, [], 11, ("b10", 0))
                self.assert_told(function, self.chained(11, word), NOTHING, ENOUGH, wanted)
                self.assert_told(function, self.chained(11, word), NOTHING, 11, wanted)
                self.assert_told(function, self.chained(11, word), NOTHING, 10, ("long", {}, [], 10, None))

    def test_calls_and_undos_count_together(self):
        blocks = self.chained(11)
        for number in (1, 4, 5, 9, 10):
            name, rows = blocks[number]
            blocks[number] = (name, [("undo", rows[0][1])])
        for function in (run, run_back):
            self.assert_told(function, blocks, NOTHING, ENOUGH, ("deep", {}, [], 11, ("b10", 0)))

    def test_a_block_that_calls_itself(self):
        for function in (run, run_back):
            for word in ("call", "undo"):
                program = program_of((word, "main"))
                self.assert_told(function, program, NOTHING, ENOUGH, ("deep", {}, [], 11, ("main", 0)))
        program = program_of(ADD, ("call", "main"), ADD)
        self.assert_run(program, NOTHING, ENOUGH, ("deep", {"x": 11}, [], 22, ("main", 1)))
        self.assert_run_back(program, NOTHING, ENOUGH, ("deep", {"x": 999989}, [], 22, ("main", 1)))

    def test_the_place_within_rows(self):
        for word in ("call", "undo"):
            for function, back in ((run, False), (run_back, True)):
                for rows, place, ahead in wrapped((word, "b3"), back):
                    blocks = [*self.chained(10)[:10], ("b10", rows)]
                    wanted = ("deep", {}, [], 11 + ahead, ("b10", *place))
                    self.assert_told(function, blocks, NOTHING, ENOUGH, wanted)

    def test_the_count_goes_down_when_a_call_is_over(self):
        blocks = self.chained(10)
        blocks[0] = ("b0", [("call", "b1"), ("call", "b1"), ("undo", "b1"), ("call", "b1")])
        self.assert_both_ways(blocks, NOTHING, ({"x": 2}, []), 44)
        blocks = self.chained(11)
        blocks[0] = ("b0", [("call", "b11"), ("undo", "b11"), ("call", "b2"), ("call", "b1")])
        self.assert_run(blocks, NOTHING, ENOUGH, ("deep", {"x": 1}, [], 26, ("b10", 0)))
        row = ("round", ("=", "i", 0), [("call", "b2")], [("call", "b2"), ("put", "i", "+", (1,))], ("=", "i", 20))
        blocks[0] = ("b0", [row])
        self.assertEqual(run(blocks, {}, [], ENOUGH)[:2], ("done", {"i": 20, "x": 41}))

    def test_it_is_found_ahead_of_the_rows_of_the_block(self):
        program = [("main", [("call", "main")]), ("a", [("pull", "x")])]
        self.assert_run(program, NOTHING, ENOUGH, ("deep", {}, [], 11, ("main", 0)))


if __name__ == "__main__":
    unittest.main()
