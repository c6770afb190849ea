"""Lines that are refused: the first one that is wrong, and its number."""

import unittest

from cases import BARRED
from runcases import ToldTest
from turnedrun.errors import BadLine
from turnedrun.notes import read

IF = ["if x = 0", "x += 1", "else", "x -= 1", "fi x < y"]
ROUND = ["from x = 0", "x += 1", "loop", "x -= 1", "until x < y"]
NO_NAMES = ("", "X", "xY", "1", "1a", "a-b", "a_b", "abcdefg", "+", "=", "<>", "x.", "\u00e9", "\u0660", "x\n", "x\t",
            "(x)", *BARRED)
NO_NUMBERS = ("00", "01", "007", "0000000", "+1", "-1", "1000000", "0999999", "1.0", "1e3", "0x1", "1_0", "\u0661",
              "\u00b2", "1\n", "9" * 5000)


class RefusedTest(ToldTest):
    def assert_refused(self, lines, number):
        kept = list(lines)
        with self.subTest(lines=lines):
            with self.assertRaises(BadLine) as caught:
                read(lines)
            self.assertIs(type(caught.exception), BadLine)
            self.assert_exactly(caught.exception.at, number)
            self.assertEqual(lines, kept)

    def assert_line_refused(self, line):
        """The line is wrong wherever it stands: at the beginning, within and behind."""
        self.assert_refused([line], 0)
        self.assert_refused([line, "block main"], 0)
        self.assert_refused(["block main", line], 1)
        self.assert_refused(["block main", line, "push x"], 1)
        self.assert_refused(["block main", "push x", *IF, "block b", line], 8)
        self.assert_refused(["block main", *ROUND, line, *ROUND], 6)
        for begun in (IF, ROUND):
            for many in range(1, 5):
                lines = ["block main", *begun[:many], line, *begun[many:], "block a"]
                self.assert_refused(lines, many + 1)

    def assert_read(self, *lines):
        """What is nearly the same is read."""
        read(["block main", *lines])


class NoneOfTheseTest(RefusedTest):
    def test_words_that_begin_no_line(self):
        for line in ("", " ", "x", "1", "put x + 1", "swap x y", "round x = 0", "# x", "X += 1", "Push x", "PUSH x",
                     "end", "fi", "until", "if", "from", "block", "push", "pull", "call", "undo", "while x = 0"):
            self.assert_line_refused(line)

    def test_blanks_too_many_or_too_few(self):
        for line in ("x += 1", "x -= y * 2", "x <> y", "push x", "pull x", "call main", "undo main"):
            self.assert_read(line)
            for at, sign in enumerate(line):
                if sign == " ":
                    self.assert_line_refused(line[:at] + line[at + 1:])
                    self.assert_line_refused(line[:at] + " " + line[at:])
                    self.assert_line_refused(line[:at] + "\t" + line[at + 1:])
                    self.assert_line_refused(line[:at] + "\n" + line[at + 1:])
                    self.assert_line_refused(line[:at] + "\u00a0" + line[at + 1:])
            for wrong in (" " + line, line + " ", "\t" + line, line + "\t", line + "\n", line + "\r"):
                self.assert_line_refused(wrong)

    def test_blanks_in_lines_of_ifs_rounds_and_blocks(self):
        for begun in (IF, ROUND):
            lines = ["block main", *begun]
            for number in (0, 1, 3, 5):
                line = lines[number]
                wrongs = [" " + line, line + " ", line + "\n", line.replace(" ", "  "), line.replace(" ", "\t")]
                wrongs.extend([line[:at] + line[at + 1:] for at in range(len(line)) if line[at] == " "])
                for wrong in wrongs:
                    if wrong != line:
                        self.assert_refused([*lines[:number], wrong, *lines[number + 1:]], number)

    def test_words_too_many_or_too_few(self):
        for line in ("push x y", "pull x 1", "call main main", "undo main x", "x += ", "x +=", "x <>", "x <> y z",
                     "x += 1 2", "x += y *", "x += y * 2 3", "x += * 2", "x += y * 2 *", "x -= 1 + 2 + 3", "block a b",
                     "if x", "if x =", "if x = 0 0", "if = 0", "from x", "from x = 0 1", "x y", "x 1", "+= 1", "<> y"):
            self.assert_line_refused(line)

    def test_words_that_are_no_names(self):
        for word in NO_NAMES:
            if word != "1":
                for line in (f"x += {word}", f"x -= {word} * y", f"x -= 1 * {word}"):
                    self.assert_line_refused(line)
            for line in (f"{word} += 1", f"{word} -= y + 2", f"{word} <> x", f"x <> {word}", f"push {word}",
                         f"pull {word}", f"call {word}", f"undo {word}"):
                self.assert_line_refused(line)

    def test_names_of_blocks_that_are_none(self):
        for word in NO_NAMES:
            self.assert_refused([f"block {word}"], 0)
            self.assert_refused(["block main", "x += 1", f"block {word}", "push x"], 2)

    def test_numbers_that_are_none(self):
        for word in NO_NUMBERS:
            for line in (f"x += {word}", f"x -= {word}", f"x += {word} * y", f"x -= y = {word}", f"{word} += 1"):
                self.assert_line_refused(line)
            for lines in (IF, ROUND):
                for number in (0, 4):
                    line = lines[number].replace("x", word)
                    self.assert_refused(["block main", *lines[:number], line, *lines[number + 1:]], number + 1)

    def test_a_number_where_a_name_is_wanted(self):
        for line in ("1 += 1", "0 -= x", "1 <> x", "x <> 1", "push 1", "pull 0", "call 1", "undo 1"):
            self.assert_line_refused(line)

    def test_signs_that_are_none(self):
        for sign in ("", "+", "-", "*=", "==", "=", "=+", ">=", "><", "<", "+==", "x"):
            self.assert_line_refused(f"x {sign} y")
        for sign in ("", "/", "==", "<=", ">", "<>", "+=", "**", "x", "1", "=!"):
            self.assert_line_refused(f"x += y {sign} z")

    def test_questions_that_are_none(self):
        for question in ("x", "0", "x + y", "x - y", "x * y", "x <= y", "x > y", "x == y", "x <> y", "X = y", "x = Y",
                         "x = if", "01 = x", "x = 00", "x = 0 0", "", "= x 0", "x 0 =", "x=0", "x =0", "not x = 0"):
            for lines in (IF, ROUND):
                for number in (0, 4):
                    line = f"{lines[number].split(' ')[0]} {question}"
                    self.assert_refused(["block main", *lines[:number], line, *lines[number + 1:]], number + 1)
                    self.assert_refused(["block main", *lines, *lines[:number], line], number + 6)

    def test_more_behind_else_and_loop(self):
        for lines in (IF, ROUND):
            for more in (" ", " x", " x = 0", " else", "x"):
                wrong = [*lines[:2], lines[2] + more, *lines[3:]]
                self.assert_refused(["block main", *wrong], 3)


class PlaceTest(RefusedTest):
    def test_an_else_a_loop_a_fi_or_an_until_by_itself(self):
        for line in ("else", "loop", "fi x = 0", "until x = 0"):
            self.assert_refused(["block main", line], 1)
            self.assert_refused(["block main", "x += 1", line], 2)
            self.assert_refused(["block main", *IF, line], 6)
            self.assert_refused(["block main", *ROUND, line, "x += 1"], 6)
            self.assert_refused([line], 0)

    def test_what_an_if_does_not_want(self):
        for line in ("loop", "fi x = 0", "until x = 0"):
            self.assert_refused(["block main", "if x = 0", line], 2)
            self.assert_refused(["block main", "if x = 0", "x += 1", line, "else", "fi x = 0"], 3)
        for line in ("else", "loop", "until x = 0"):
            self.assert_refused(["block main", "if x = 0", "else", line], 3)
            self.assert_refused(["block main", "if x = 0", "else", "x += 1", line, "fi x = 0"], 4)

    def test_what_a_round_does_not_want(self):
        for line in ("else", "fi x = 0", "until x = 0"):
            self.assert_refused(["block main", "from x = 0", line], 2)
            self.assert_refused(["block main", "from x = 0", "x += 1", line, "loop", "until x = 0"], 3)
        for line in ("loop", "else", "fi x = 0"):
            self.assert_refused(["block main", "from x = 0", "loop", line], 3)
            self.assert_refused(["block main", "from x = 0", "loop", "x += 1", line, "until x = 0"], 4)

    def test_the_latest_one_that_is_not_over_wants_its_own(self):
        self.assert_refused(["block main", "if x = 0", "from x = 0", "else"], 3)
        self.assert_refused(["block main", "if x = 0", "from x = 0", "loop", "else"], 4)
        self.assert_refused(["block main", "if x = 0", "else", "from x = 0", "loop", "fi x = 0"], 5)
        self.assert_refused(["block main", "from x = 0", "loop", "if x = 0", "else", "until x = 0"], 5)
        self.assert_refused(["block main", "from x = 0", *IF, "until x = 0"], 7)
        self.assert_refused(["block main", "if x = 0", *ROUND, "fi x = 0"], 7)

    def test_a_row_ahead_of_any_block(self):
        for line in ("x += 1", "x <> y", "push x", "pull x", "call main", "undo main"):
            self.assert_refused([line], 0)
            self.assert_refused([line, "block main", line], 0)
        self.assert_refused(IF, 0)
        self.assert_refused([*ROUND, "block main"], 0)

    def test_a_block_within_rows(self):
        for lines in (IF, ROUND):
            for many in range(1, 5):
                self.assert_refused(["block main", *lines[:many], "block b"], many + 1)
                self.assert_refused(["block main", *lines[:many], "block b", *lines[many:]], many + 1)
                self.assert_refused(["block main", "block b", *IF, "if x = 0", *lines[:many], "block b"], many + 8)

    def test_an_if_or_a_round_that_is_not_over(self):
        for lines in (IF, ROUND):
            for many in range(1, 5):
                self.assert_refused(["block main", *lines[:many]], many + 1)
                self.assert_refused(["block a", *IF, "block main", *lines[:many]], many + 7)
                self.assert_refused(["block main", *IF[:3], *lines[:many]], many + 4)
            self.assert_refused(["block main", *ROUND[:1], *lines], 7)
            self.assert_refused(["block main", *ROUND[:3], *lines, "push x"], 10)

    def test_the_first_wrong_line_counts(self):
        self.assert_refused(["block main", "x", "y", "fi"], 1)
        self.assert_refused(["x += 1", "x", "block b"], 0)
        self.assert_refused(["block main", "if x = 0", "X", "block b"], 2)
        self.assert_refused(["block main", "if x = 0", "block b", "X"], 2)
        self.assert_refused(["block main", "if x = 0", "X"], 2)
        self.assert_refused(["block main", "push x", "else", "if x = 0"], 2)
        self.assert_refused(["block main"] + ["push x"] * 5000 + ["push X"], 5001)

    def test_a_wrong_text_leaves_nothing_for_the_next_one(self):
        self.assert_refused(["block main", "if x = 0"], 2)
        self.assert_refused(["else"], 0)
        self.assertEqual(read(["block b", "push x"]), [("b", [("push", "x")])])


if __name__ == "__main__":
    unittest.main()
