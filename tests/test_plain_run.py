"""Plain rows that are run."""

import unittest

from cases import QUESTION_SIGNS, SUM_SIGNS
from runcases import ENOUGH, ToldTest
from turnedrun import plain
from turnedrun.plain import plain_run

UP = ("set", "x", ("+", "x", 1))
DOWN = ("set", "n", ("-", "n", 1))


class PlainTest(ToldTest):
    def assert_states(self, rows, *states):
        """As many steps as it may make lead from the first state to each one in turn, the last of them done."""
        last = len(states) - 1
        for most, boxes in enumerate(states):
            with self.subTest(rows=rows, most=most):
                word = "done" if most == last else "long"
                wanted = (word, {name: boxes[name] for name in boxes if boxes[name]}, most)
                self.assert_exactly(self.told_by(plain_run, rows, states[0], most), wanted)
        for most in (last + 1, ENOUGH):
            wanted = ("done", {name: states[-1][name] for name in states[-1] if states[-1][name]}, last)
            self.assert_exactly(self.told_by(plain_run, rows, states[0], most), wanted)


class SetTest(PlainTest):
    def test_a_set_of_one_thing(self):
        self.assert_states([("set", "x", (7,))], {"x": 3}, {"x": 7})
        self.assert_states([("set", "x", (0,))], {"x": 3}, {})
        self.assert_states([("set", "x", ("y",))], {"x": 3, "y": 5}, {"x": 5, "y": 5})
        self.assert_states([("set", "x", ("y",))], {"x": 3}, {})
        self.assert_states([("set", "x", (999999,))], {}, {"x": 999999})

    def test_a_set_of_each_sum(self):
        amounts = {"+": 16, "-": 999998, "*": 63, "<": 1, "=": 0, ">=": 0, "!=": 1}
        for sign in SUM_SIGNS:
            boxes = {"x": 100, "y": 7, "z": 9}
            self.assert_states([("set", "x", (sign, "y", "z"))], boxes, {**boxes, "x": amounts[sign]})

    def test_the_box_may_stand_in_its_own_sum(self):
        self.assert_states([UP], {}, {"x": 1})
        self.assert_states([UP], {"x": 999999}, {})
        self.assert_states([("set", "x", ("x",))], {"x": 4}, {"x": 4})
        self.assert_states([("set", "x", ("*", "x", "x"))], {"x": 4}, {"x": 16})
        self.assert_states([("set", "x", ("-", "y", "x"))], {"x": 4, "y": 1}, {"x": 999997, "y": 1})
        self.assert_states([("set", "x", ("=", "x", 4))], {"x": 4}, {"x": 1})

    def test_sets_one_by_one(self):
        rows = [UP, ("set", "y", ("x",)), UP, ("set", "x", ("*", "x", "y"))]
        self.assert_states(rows, {"x": 1}, {"x": 2}, {"x": 2, "y": 2}, {"x": 3, "y": 2}, {"x": 6, "y": 2})


class IfTest(PlainTest):
    def test_either_side(self):
        row = ("if", ("<", "n", 3), [UP, UP], [("set", "n", (9,))])
        self.assert_states([row], {"n": 2}, {"n": 2}, {"n": 2, "x": 1}, {"n": 2, "x": 2})
        self.assert_states([row], {"n": 3}, {"n": 3}, {"n": 9})

    def test_each_sign_of_a_question(self):
        answers = {"<": (1, 0, 0), "=": (0, 1, 0), ">=": (0, 1, 1), "!=": (1, 0, 1)}
        for sign in QUESTION_SIGNS:
            for n, answer in zip((2, 3, 4), answers[sign]):
                row = ("if", (sign, "n", 3), [("set", "y", (1,))], [("set", "z", (1,))])
                self.assert_states([row], {"n": n}, {"n": n}, {"n": n, "y": answer, "z": 1 - answer})

    def test_its_question_is_asked_once(self):
        row = ("if", ("=", "n", 0), [("set", "n", (5,)), UP], [("set", "n", (0,))])
        self.assert_states([row, UP], {}, {}, {"n": 5}, {"n": 5, "x": 1}, {"n": 5, "x": 2})
        self.assert_states([row, UP], {"n": 1}, {"n": 1}, {}, {"x": 1})

    def test_sides_without_rows(self):
        row = ("if", ("=", "n", 0), [], [])
        self.assert_states([row], {}, {})
        self.assert_states([row, UP], {"n": 1}, {"n": 1}, {"n": 1, "x": 1})

    def test_ifs_in_ifs(self):
        inner = ("if", ("=", "x", 0), [UP], [])
        row = ("if", ("=", "n", 0), [inner, inner], [inner])
        self.assert_states([row], {}, {}, {}, {"x": 1}, {"x": 1})
        self.assert_states([row], {"n": 1, "x": 5}, {"n": 1, "x": 5}, {"n": 1, "x": 5})


class WhileTest(PlainTest):
    def test_no_turn(self):
        self.assert_states([("while", ("!=", "n", 0), [UP, DOWN])], {}, {})
        self.assert_states([("while", ("!=", "n", 0), [UP, DOWN]), UP], {"x": 1}, {"x": 1}, {"x": 2})

    def test_some_turns(self):
        row = ("while", ("!=", "n", 0), [UP, DOWN])
        self.assert_states([row], {"n": 1}, {"n": 1}, {"n": 1, "x": 1}, {"x": 1}, {"x": 1})
        self.assert_states([row], {"n": 2}, {"n": 2}, {"n": 2, "x": 1}, {"n": 1, "x": 1}, {"n": 1, "x": 1},
                           {"n": 1, "x": 2}, {"x": 2}, {"x": 2})

    def test_a_while_that_is_never_over(self):
        for most in (0, 1, 2, 3, 50, 2001):
            self.assert_exactly(self.told_by(plain_run, [("while", ("=", 0, 0), [])], {}, most), ("long", {}, most))
            boxes = {"x": most // 2} if most > 1 else {}
            told = self.told_by(plain_run, [("while", ("=", 0, 0), [UP])], {}, most)
            self.assert_exactly(told, ("long", boxes, most))

    def test_whiles_and_ifs_in_one_another(self):
        inner = ("while", ("<", "m", "n"), [("set", "m", ("+", "m", 1)), ("if", ("=", "m", 2), [UP], [])])
        row = ("while", ("!=", "n", 0), [inner, ("set", "m", (0,)), DOWN])
        self.assert_exactly(self.told_by(plain_run, [row], {"n": 3}, ENOUGH), ("done", {"x": 2}, 33))
        for most in range(33):
            told = plain_run([row], {"n": 3}, most)
            self.assertEqual((told[0], told[2]), ("long", most))

    def test_rows_7_deep(self):
        rows = [UP]
        for level in range(6):
            rows = [("if", ("=", "n", level % 2), rows, rows)]
        self.assert_exactly(self.told_by(plain_run, rows, {}, 7), ("done", {"x": 1}, 7))
        rows = [("set", "n", (0,))]
        for _ in range(6):
            rows = [("while", ("!=", "n", 0), rows)]
        self.assert_exactly(self.told_by(plain_run, rows, {"n": 4}, ENOUGH), ("done", {}, 13))


class ProgramTest(PlainTest):
    def test_no_rows(self):
        self.assert_states([], {"x": 3})
        self.assert_states([], {})

    def test_boxes_that_hold_0_are_left_out(self):
        self.assert_exactly(self.told_by(plain_run, [UP], {"x": 999999, "y": 0, "z": 2}, 9), ("done", {"z": 2}, 1))
        self.assert_exactly(self.told_by(plain_run, [UP], {"x": 0, "y": 0, "z": 2}, 0), ("long", {"z": 2}, 0))

    def test_nothing_is_kept_between_two_calls(self):
        rows = [UP]
        self.assertEqual(plain_run(rows, {}, 9), ("done", {"x": 1}, 1))
        rows.append(UP)
        self.assertEqual(plain_run(rows, {}, 9), ("done", {"x": 2}, 2))
        self.assertEqual(plain_run(rows, {}, 9), ("done", {"x": 2}, 2))

    def test_the_functions_are_defined_in_the_file(self):
        for function in (plain.plain_run, plain.translated, plain.told_once):
            self.assertEqual(function.__module__, "turnedrun.plain")


if __name__ == "__main__":
    unittest.main()
