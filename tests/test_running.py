"""Rows that are run, and run from behind: each kind by itself, within rows, and in called blocks."""

import unittest

from cases import SUM_SIGNS, program_of
from runcases import ENOUGH, ToldTest
from turnedrun import running
from turnedrun.running import run, run_back

NOTHING = ({}, [])


class PutTest(ToldTest):
    def assert_put(self, row, before, after):
        self.assert_both_ways(program_of(row), (before, [4]), (after, [4]), 1)

    def test_more_and_less_by_a_thing(self):
        self.assert_put(("put", "x", "+", (3,)), {"x": 4}, {"x": 7})
        self.assert_put(("put", "x", "-", (3,)), {"x": 4}, {"x": 1})
        self.assert_put(("put", "x", "+", ("y",)), {"x": 4, "y": 5}, {"x": 9, "y": 5})
        self.assert_put(("put", "x", "-", ("y",)), {"x": 9, "y": 5}, {"x": 4, "y": 5})
        self.assert_put(("put", "x", "+", (0,)), {"x": 4}, {"x": 4})
        self.assert_put(("put", "x", "-", ("y",)), {"x": 4}, {"x": 4})

    def test_by_what_is_left_of_1000000(self):
        self.assert_put(("put", "x", "+", (2,)), {"x": 999999}, {"x": 1})
        self.assert_put(("put", "x", "-", (2,)), {"x": 1}, {"x": 999999})
        self.assert_put(("put", "x", "+", ("y",)), {"x": 999999, "y": 999999}, {"x": 999998, "y": 999999})
        self.assert_put(("put", "x", "+", (1,)), {"x": 999999}, {"x": 0})

    def test_each_sign_of_a_sum(self):
        boxes = {"x": 100, "y": 7, "z": 9}
        amounts = {"+": 16, "-": 999998, "*": 63, "<": 1, "=": 0, ">=": 0, "!=": 1}
        for sign in SUM_SIGNS:
            more = (100 + amounts[sign]) % 1000000
            less = (100 - amounts[sign]) % 1000000
            self.assert_put(("put", "x", "+", (sign, "y", "z")), boxes, {**boxes, "x": more})
            self.assert_put(("put", "x", "-", (sign, "y", "z")), boxes, {**boxes, "x": less})

    def test_a_name_that_is_not_in_the_dict(self):
        self.assert_put(("put", "x", "+", (3,)), {}, {"x": 3})
        self.assert_put(("put", "x", "-", (3,)), {"y": 1}, {"x": 999997, "y": 1})
        self.assert_put(("put", "x", "-", ("=", "y", "z")), {}, {"x": 999999})


class SwapTest(ToldTest):
    def assert_swap(self, first, second, before, after):
        self.assert_both_ways(program_of(("swap", first, second)), (before, [1, 2]), (after, [1, 2]), 1)

    def test_both_boxes_change_what_they_hold(self):
        self.assert_swap("x", "y", {"x": 4, "y": 5, "z": 6}, {"x": 5, "y": 4, "z": 6})
        self.assert_swap("x", "y", {"x": 4, "y": 4}, {"x": 4, "y": 4})

    def test_a_box_with_itself(self):
        self.assert_swap("x", "x", {"x": 4}, {"x": 4})
        self.assert_swap("x", "x", {}, {})

    def test_names_that_are_not_in_the_dict(self):
        self.assert_swap("x", "y", {"x": 4}, {"y": 4})
        self.assert_swap("x", "y", {"y": 4}, {"x": 4})
        self.assert_swap("x", "y", {}, {})


class PileTest(ToldTest):
    def test_push(self):
        push = program_of(("push", "x"))
        self.assert_both_ways(push, ({"x": 4, "y": 1}, []), ({"y": 1}, [4]), 1)
        self.assert_both_ways(push, ({"x": 4}, [7, 8]), ({}, [7, 8, 4]), 1)

    def test_pull(self):
        pull = program_of(("pull", "x"))
        self.assert_both_ways(pull, ({"y": 1}, [4]), ({"x": 4, "y": 1}, []), 1)
        self.assert_both_ways(pull, ({"x": 0}, [7, 8]), ({"x": 8}, [7]), 1)

    def test_a_box_that_holds_0(self):
        for boxes in ({}, {"x": 0}):
            self.assert_both_ways(program_of(("push", "x")), (boxes, [7]), ({}, [7, 0]), 1)
            self.assert_both_ways(program_of(("pull", "x")), (boxes, [7, 0]), ({}, [7]), 1)

    def test_the_last_one_pushed_is_pulled_first(self):
        rows = program_of(("push", "x"), ("push", "y"), ("pull", "x"), ("pull", "y"))
        self.assert_both_ways(rows, ({"x": 1, "y": 2}, [9]), ({"x": 2, "y": 1}, [9]), 4)

    def test_one_box_pushed_twice(self):
        rows = program_of(("push", "x"), ("push", "x"), ("push", "y"))
        self.assert_both_ways(rows, ({"x": 1, "y": 2}, []), ({}, [1, 0, 2]), 3)


class IfTest(ToldTest):
    yes = [("put", "y", "+", (2,)), ("put", "x", "-", (1,))]
    no = [("put", "y", "+", (5,))]
    row = ("if", ("<", "x", 4), yes, no, ("<", "x", 3))

    def test_either_side(self):
        self.assert_both_ways(program_of(self.row), ({"x": 3}, [1]), ({"x": 2, "y": 2}, [1]), 4)
        self.assert_both_ways(program_of(self.row), ({"x": 4}, [1]), ({"x": 4, "y": 5}, [1]), 3)

    def test_each_sign_of_its_questions(self):
        for sign, yes in (("<", 1), ("=", 0), (">=", 0), ("!=", 1)):
            row = ("if", (sign, "x", "z"), [("put", "y", "+", (1,))], [("put", "y", "+", (2,))], (sign, 1, 2))
            self.assert_both_ways(program_of(row), ({"x": 1, "z": 2}, []), ({"x": 1, "y": 2 - yes, "z": 2}, []), 3)

    def test_the_last_question_is_the_one_behind(self):
        """The first question comes to no behind the rows, the last one to no ahead of them."""
        row = ("if", ("=", "x", 1), [("put", "x", "+", (1,))], [("put", "x", "+", (5,))], ("=", "x", 2))
        self.assert_both_ways(program_of(row), ({"x": 1}, []), ({"x": 2}, []), 3)
        self.assert_both_ways(program_of(row), ({}, []), ({"x": 5}, []), 3)

    def test_sides_without_rows(self):
        row = ("if", ("=", "x", 1), [], [], ("=", "x", 1))
        self.assert_both_ways(program_of(row), ({"x": 1}, []), ({"x": 1}, []), 2)
        self.assert_both_ways(program_of(row), ({"x": 2}, []), ({"x": 2}, []), 2)

    def test_the_rows_of_a_side_stand_in_their_order(self):
        row = ("if", ("=", "u", 0), [("put", "x", "+", ("y",)), ("put", "y", "+", ("x",))], [], ("=", "u", 0))
        self.assert_run(program_of(row), ({"x": 1, "y": 2}, []), 4, ("done", {"x": 3, "y": 5}, [], 4, None))
        self.assert_run_back(program_of(row), ({"x": 1, "y": 2}, []), 4, ("done", {"y": 1}, [], 4, None))
        row = ("if", ("=", "u", 1), [], [("put", "x", "+", ("y",)), ("put", "y", "+", ("x",))], ("=", "u", 1))
        self.assert_run(program_of(row), ({"x": 1, "y": 2}, []), 4, ("done", {"x": 3, "y": 5}, [], 4, None))
        self.assert_run_back(program_of(row), ({"x": 1, "y": 2}, []), 4, ("done", {"y": 1}, [], 4, None))


class RoundTest(ToldTest):
    body = [("put", "y", "+", (10,)), ("put", "z", "+", ("y",))]
    back = [("put", "i", "+", (1,)), ("put", "k", "+", ("i",))]
    row = ("round", ("=", "i", 0), body, back, ("=", "i", "n"))

    def test_no_turn_back(self):
        self.assert_both_ways(program_of(self.row), ({}, []), ({"y": 10, "z": 10}, []), 4)

    def test_one_turn_back(self):
        ended = {"i": 1, "k": 1, "n": 1, "y": 20, "z": 30}
        self.assert_both_ways(program_of(self.row), ({"n": 1}, [3]), (ended, [3]), 10)

    def test_several_turns_back(self):
        ended = {"i": 2, "k": 3, "n": 2, "y": 30, "z": 60}
        self.assert_both_ways(program_of(self.row), ({"n": 2}, []), (ended, []), 16)
        ended = {"i": 5, "k": 15, "n": 5, "y": 60, "z": 210}
        self.assert_both_ways(program_of(self.row), ({"n": 5}, []), (ended, []), 34)

    def test_without_a_body_or_without_a_back(self):
        row = ("round", ("=", "i", 0), [], [("put", "i", "+", (1,))], ("=", "i", 3))
        self.assert_both_ways(program_of(row), ({}, []), ({"i": 3}, []), 11)
        row = ("round", ("=", "i", 0), [("put", "i", "+", (1,))], [], ("=", "i", 3))
        self.assert_both_ways(program_of(row), ({}, []), ({"i": 3}, []), 9)
        row = ("round", ("=", "i", 0), [], [], (">=", "i", 0))
        self.assert_both_ways(program_of(row), ({}, []), ({}, []), 2)

    def test_a_round_in_a_round(self):
        inner = ("round", ("=", "j", 0), [("put", "x", "+", (1,))], [("put", "j", "+", (1,))], ("=", "j", 2))
        row = ("round", ("=", "i", 0), [inner, ("put", "j", "-", (2,))], [("put", "i", "+", (1,))], ("=", "i", 1))
        self.assert_both_ways(program_of(row), ({}, []), ({"i": 1, "x": 6}, []), 29)


class CallTest(ToldTest):
    work = ("work", [("put", "x", "+", ("y",)), ("put", "y", "+", (1,))])

    def test_a_call_and_an_undo(self):
        call = [("main", [("call", "work")]), self.work]
        self.assert_both_ways(call, ({"x": 1, "y": 2}, [6]), ({"x": 3, "y": 3}, [6]), 3)
        undo = [("main", [("undo", "work")]), self.work]
        self.assert_both_ways(undo, ({"x": 3, "y": 3}, [6]), ({"x": 1, "y": 2}, [6]), 3)

    def test_a_call_and_its_undo_lead_back(self):
        program = [("main", [("call", "work"), ("swap", "x", "z"), ("undo", "work")]), self.work]
        self.assert_both_ways(program, ({"x": 1, "y": 2}, []), ({"x": 999998, "y": 2, "z": 3}, []), 7)

    def test_calls_and_undos_within_one_another(self):
        for first in ("call", "undo"):
            for second in ("call", "undo"):
                program = [("main", [(first, "a")]), self.work, ("a", [(second, "work")])]
                low, high = ({"x": 1, "y": 2}, []), ({"x": 3, "y": 3}, [])
                if first == second:
                    self.assert_both_ways(program, low, high, 4)
                else:
                    self.assert_both_ways(program, high, low, 4)

    def test_undo_within_undo_within_undo(self):
        program = [("main", [("undo", "a")]), ("a", [("undo", "b")]), ("b", [("undo", "work")]), self.work]
        self.assert_both_ways(program, ({"x": 3, "y": 3}, []), ({"x": 1, "y": 2}, []), 5)

    def test_behind_a_call_the_rows_go_on_in_their_own_direction(self):
        program = [("main", [("undo", "a"), ("put", "y", "+", (5,)), ("call", "a")]),
                   ("a", [("undo", "work"), ("put", "x", "-", ("y",))]), self.work]
        self.assert_both_ways(program, ({"x": 14, "y": 4}, []), ({"x": 4, "y": 9}, []), 11)

    def test_a_block_may_call_one_ahead_of_it_and_one_without_rows(self):
        program = [("main", [("if", ("=", "x", 0), [("put", "x", "+", (2,)), ("call", "a")], [], ("=", "x", 3))]),
                   ("a", [("call", "none"), ("undo", "none"), ("put", "x", "+", (1,))]), ("none", [])]
        self.assert_both_ways(program, ({}, []), ({"x": 3}, []), 7)

    def test_a_block_that_calls_itself(self):
        again = [("put", "x", "+", (1,)), ("if", ("<", "x", 4), [("call", "main")], [], ("=", "y", 1))]
        program = [("main", again)]
        self.assert_run(program, NOTHING, ENOUGH, ("against", {"x": 4}, [], 13, ("main", 1)))
        row = ("if", ("<", "x", 4), [("call", "main"), ("put", "x", "-", (1,))], [], ("<", "x", 4))
        program = [("main", [("put", "x", "+", (1,)), row])]
        self.assert_both_ways(program, NOTHING, ({"x": 1}, []), 18)


class ProgramTest(ToldTest):
    def test_no_rows(self):
        for function in (run, run_back):
            for most in (0, 1, ENOUGH):
                begun = ({"x": 3}, [1, 2])
                self.assert_told(function, program_of(), begun, most, ("done", {"x": 3}, [1, 2], 0, None))
                self.assert_told(function, [("a", []), ("b", [("push", "x")])], NOTHING, most,
                                 ("done", {}, [], 0, None))

    def test_it_begins_with_its_first_block(self):
        program = [("b", [("put", "x", "+", (1,))]), ("main", [("put", "x", "+", (2,))]), ("a", [("push", "x")])]
        self.assert_both_ways(program, NOTHING, ({"x": 1}, []), 1)

    def test_rows_are_done_one_by_one(self):
        rows = [("put", "x", "+", ("y",)), ("put", "y", "+", ("x",)), ("swap", "y", "z"), ("push", "z")]
        self.assert_run(program_of(*rows), ({"x": 1, "y": 2}, []), 4, ("done", {"x": 3}, [5], 4, None))
        self.assert_run_back(program_of(*rows), ({"x": 3}, [5]), 4, ("done", {"x": 1, "y": 2}, [], 4, None))

    def test_boxes_that_hold_0_are_left_out(self):
        begun = ({"a": 0, "x": 3, "b": 0}, [0])
        row = ("put", "x", "-", (3,))
        for function in (run, run_back):
            self.assert_told(function, program_of(), begun, 9, ("done", {"x": 3}, [0], 0, None))
            self.assert_told(function, program_of(("call", "main")), begun, 0, ("long", {"x": 3}, [0], 0, None))
        self.assert_run(program_of(row), begun, 9, ("done", {}, [0], 1, None))
        self.assert_run(program_of(row, ("swap", "a", "x")), begun, 1, ("long", {}, [0], 1, None))
        self.assert_run(program_of(row, ("pull", "y"), ("pull", "y")), begun, 9,
                        ("against", {}, [], 3, ("main", 2)))

    def test_rows_8_deep(self):
        row = ("put", "x", "+", (1,))
        for level in range(7):
            row = ("if", ("=", "u", level % 2), [row], [row], ("=", "u", level % 2))
        self.assert_both_ways(program_of(row), NOTHING, ({"x": 1}, []), 15)

    def test_rows_8_deep_in_11_blocks(self):
        blocks = []
        for number in range(11):
            row = ("call", f"b{number + 1}") if number < 10 else ("put", "x", "+", (1,))
            for level in range(7):
                row = ("if", ("=", "u", 0), [row], [], ("=", "u", 0))
            blocks.append((f"b{number}", [row]))
        self.assert_both_ways(blocks, NOTHING, ({"x": 1}, []), 11 * 15)

    def test_the_functions_are_defined_in_the_file(self):
        for function in (running.run, running.run_back):
            self.assertEqual(function.__module__, "turnedrun.running")

    def test_nothing_is_kept_between_two_calls(self):
        rows = [("put", "x", "+", (1,)), ("push", "x")]
        program = program_of(*rows)
        self.assertEqual(run(program, {}, [], 9), ("done", {}, [1], 2, None))
        program[0][1].pop()
        self.assertEqual(run(program, {}, [], 9), ("done", {"x": 1}, [], 1, None))
        self.assertEqual(run(program, {}, [], 9), ("done", {"x": 1}, [], 1, None))
        self.assertEqual(run_back(program, {}, [], 9), ("done", {"x": 999999}, [], 1, None))


if __name__ == "__main__":
    unittest.main()
