"""Programs written as lines, and the same programs read from them."""

import unittest

from cases import ADD, Q, QUESTION_SIGNS, R, SUM_SIGNS, program_of
from runcases import Samples, ToldTest
from turnedrun import notes
from turnedrun.errors import UndoError
from turnedrun.notes import read, written
from turnedrun.rows import checked


class NotesTest(ToldTest):
    def assert_lines(self, program, lines):
        """The program is written as these lines, and they are read as the program."""
        with self.subTest(program=program):
            self.assert_exactly(self.told_by(written, program), lines)
            self.assert_exactly(self.told_by(read, lines), program)

    def assert_line(self, row, line):
        self.assert_lines(program_of(row), ["block main", line])
        self.assert_lines([("a", [ADD, row, ADD]), ("b", [row])],
                          ["block a", "x += 1", line, "x += 1", "block b", line])
        self.assert_lines(program_of(("if", Q, [row], [ADD, row], R)),
                          ["block main", "if x = 0", line, "else", "x += 1", line, "fi x < y"])
        self.assert_lines(program_of(("round", Q, [ADD, row], [row], R)),
                          ["block main", "from x = 0", "x += 1", line, "loop", line, "until x < y"])


class RowLinesTest(NotesTest):
    def test_a_put_of_one_thing(self):
        self.assert_line(("put", "x", "+", ("y",)), "x += y")
        self.assert_line(("put", "x", "-", ("y",)), "x -= y")
        self.assert_line(("put", "x", "+", (7,)), "x += 7")
        self.assert_line(("put", "a1b2c3", "-", ("z9",)), "a1b2c3 -= z9")

    def test_a_put_of_each_sum(self):
        for sign in SUM_SIGNS:
            self.assert_line(("put", "x", "+", (sign, "y", "z")), f"x += y {sign} z")
            self.assert_line(("put", "x", "-", (sign, "y", "z")), f"x -= y {sign} z")
            self.assert_line(("put", "x", "+", (sign, 1, "z")), f"x += 1 {sign} z")
            self.assert_line(("put", "x", "-", (sign, "y", 20)), f"x -= y {sign} 20")
            self.assert_line(("put", "x", "-", (sign, 3, 20)), f"x -= 3 {sign} 20")

    def test_numbers(self):
        for number in (0, 1, 9, 10, 100, 1000, 12345, 100000, 999999):
            self.assert_line(("put", "x", "+", (number,)), f"x += {number}")
            self.assert_line(("put", "x", "-", ("*", number, "y")), f"x -= {number} * y")
            self.assert_line(("put", "x", "-", ("-", "y", number)), f"x -= y - {number}")
            row = ("if", ("<", number, "y"), [], [], ("=", "y", number))
            self.assert_lines(program_of(row), ["block main", f"if {number} < y", "else", f"fi y = {number}"])

    def test_a_swap(self):
        self.assert_line(("swap", "x", "y"), "x <> y")
        self.assert_line(("swap", "y0", "x"), "y0 <> x")
        self.assert_line(("swap", "x", "x"), "x <> x")

    def test_words_with_one_name(self):
        for word in ("push", "pull", "call", "undo"):
            self.assert_line((word, "main"), f"{word} main")
            self.assert_line((word, "x1"), f"{word} x1")

    def test_names_that_are_first_words_of_rows_but_not_of_lines(self):
        for name in ("put", "swap", "round", "done", "main", "iff", "undo0", "blocks", "fro", "elsea"):
            self.assert_line(("put", name, "+", (1,)), f"{name} += 1")
            self.assert_line(("swap", name, "x"), f"{name} <> x")
            self.assert_line(("push", name), f"push {name}")
            self.assert_lines([(name, [])], [f"block {name}"])


class BranchingLinesTest(NotesTest):
    def test_an_if(self):
        self.assert_lines(program_of(("if", ("<", "x", "y"), [ADD, ADD], [("push", "x")], ("!=", "z", 3))),
                          ["block main", "if x < y", "x += 1", "x += 1", "else", "push x", "fi z != 3"])

    def test_a_round(self):
        self.assert_lines(program_of(("round", ("<", "x", "y"), [ADD, ADD], [("push", "x")], ("!=", "z", 3))),
                          ["block main", "from x < y", "x += 1", "x += 1", "loop", "push x", "until z != 3"])

    def test_each_sign_of_a_question(self):
        for sign in QUESTION_SIGNS:
            for other in QUESTION_SIGNS:
                first, last = (sign, "a", 1), (other, 0, "b")
                self.assert_lines(program_of(("if", first, [], [], last)),
                                  ["block main", f"if a {sign} 1", "else", f"fi 0 {other} b"])
                self.assert_lines(program_of(("round", first, [], [], last)),
                                  ["block main", f"from a {sign} 1", "loop", f"until 0 {other} b"])

    def test_sides_without_rows(self):
        self.assert_lines(program_of(("if", Q, [], [ADD], R)),
                          ["block main", "if x = 0", "else", "x += 1", "fi x < y"])
        self.assert_lines(program_of(("if", Q, [ADD], [], R)),
                          ["block main", "if x = 0", "x += 1", "else", "fi x < y"])
        self.assert_lines(program_of(("round", Q, [], [ADD], R)),
                          ["block main", "from x = 0", "loop", "x += 1", "until x < y"])
        self.assert_lines(program_of(("round", Q, [ADD], [], R)),
                          ["block main", "from x = 0", "x += 1", "loop", "until x < y"])

    def test_rows_in_rows(self):
        inner = ("round", Q, [ADD], [("if", R, [], [], Q)], R)
        row = ("if", Q, [inner, ADD], [inner, inner], R)
        lines = ["from x = 0", "x += 1", "loop", "if x < y", "else", "fi x = 0", "until x < y"]
        self.assert_lines(program_of(row, ADD), ["block main", "if x = 0", *lines, "x += 1", "else", *lines, *lines,
                                                 "fi x < y", "x += 1"])

    def test_rows_8_deep(self):
        row, lines = ADD, ["x += 1"]
        for word in ("if", "round", "round", "if", "if", "round", "if"):
            row = (word, Q, [], [row], R)
            begin, middle, end = ("if", "else", "fi") if word == "if" else ("from", "loop", "until")
            lines = [f"{begin} x = 0", middle, *lines, f"{end} x < y"]
            self.assert_lines(program_of(row), ["block main", *lines])


class ProgramLinesTest(NotesTest):
    def test_blocks_one_behind_the_other(self):
        self.assert_lines([("b", [ADD]), ("main", [("call", "a"), ADD]), ("a", [("push", "x")])],
                          ["block b", "x += 1", "block main", "call a", "x += 1", "block a", "push x"])
        names = [f"b{number}" for number in range(12)]
        self.assert_lines([(name, [ADD]) for name in names],
                          [line for name in names for line in (f"block {name}", "x += 1")])

    def test_blocks_without_rows(self):
        self.assert_lines([("a", [])], ["block a"])
        self.assert_lines([("a", []), ("b", [ADD]), ("c", [])], ["block a", "block b", "x += 1", "block c"])

    def test_no_lines(self):
        self.assert_lines([], [])

    def test_samples(self):
        for seed in range(300):
            for program in (Samples(seed).any_program(), Samples(seed).leading_program()):
                lines = written(program)
                self.assertEqual({type(line) for line in lines}, {str})
                self.assert_exactly(read(lines), program)
                self.assert_exactly(written(read(lines)), lines)

    def test_programs_that_are_none_but_for_the_forms_of_their_texts(self):
        deep, lines = ADD, ["x += 1"]
        for _ in range(12):
            deep = ("if", Q, [deep], [], R)
            lines = ["if x = 0", *lines, "else", "fi x < y"]
        programs = (
            ([("a", [ADD]), ("a", [])], ["block a", "x += 1", "block a"]),
            ([("a", [])] * 13, ["block a"] * 13),
            ([(f"b{number}", []) for number in range(14)], [f"block b{number}" for number in range(14)]),
            (program_of(("call", "nil"), ("undo", "nil")), ["block main", "call nil", "undo nil"]),
            (program_of(("put", "x", "+", ("x",))), ["block main", "x += x"]),
            (program_of(("put", "x", "-", ("*", 2, "x"))), ["block main", "x -= 2 * x"]),
            (program_of(deep), ["block main", *lines]),
        )
        for program, lines in programs:
            with self.assertRaises(UndoError):
                checked(program)
            self.assert_lines(program, lines)

    def test_the_functions_are_defined_in_the_file(self):
        for function in (notes.written, notes.read):
            self.assertEqual(function.__module__, "turnedrun.notes")

    def test_nothing_is_kept_between_two_calls(self):
        program = program_of(ADD)
        self.assertEqual(written(program), ["block main", "x += 1"])
        program[0][1].append(("push", "x"))
        self.assertEqual(written(program), ["block main", "x += 1", "push x"])
        lines = ["block a"]
        self.assertEqual(read(lines), [("a", [])])
        lines.append("push x")
        self.assertEqual(read(lines), [("a", [("push", "x")])])
        self.assertEqual(read(["block b"]), [("b", [])])


if __name__ == "__main__":
    unittest.main()
