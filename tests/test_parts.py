"""The parts of rows: names, signs, sums, questions, and rows within."""

import unittest

from cases import (
    ADD, BARRED, NO_LISTS, NO_NAMES, Q, QUESTION_SIGNS, R, SUM_SIGNS, RowsTest, Uneasy, program_of,
)
from turnedrun.errors import BadName, BadNumber, BadRow, OwnBox
from turnedrun.rows import checked

NO_NUMBERS = (-1, 1000000, 10 ** 30, True, False, None, 1.0, b"a", [], [1], (), (1,), ("a",), {}, {"a": 1}, object())


class BadNamePartTest(RowsTest):
    def test_where_a_name_is_wanted(self):
        for name in (*NO_NAMES, Uneasy()):
            self.assert_row_refused(("put", name, "+", (1,)), BadName)
            self.assert_row_refused(("swap", name, "x"), BadName)
            self.assert_row_refused(("swap", "x", name), BadName)
            self.assert_row_refused(("push", name), BadName)
            self.assert_row_refused(("pull", name), BadName)

    def test_a_block_that_is_not_there(self):
        for name in (*NO_NAMES, "x", "nil", "mai", "mainx", "Main", Uneasy()):
            self.assert_row_refused(("call", name), BadName)
            self.assert_row_refused(("undo", name), BadName)

    def test_the_blocks_of_this_program_count(self):
        self.assert_refused([("main", [("call", "work")])], BadName, ("main", 0))
        self.assertEqual(checked([("main", [("call", "work")]), ("work", [])]), 1)
        self.assert_refused([("work", []), ("b", [("undo", "main")])], BadName, ("b", 0))


class BadSignTest(RowsTest):
    def test_the_sign_of_a_put(self):
        signs = ("", "*", "<", "=", ">=", "!=", "+-", "-+", "++", "+=", " +", "x", None, 0, 1, True, b"+", [], ["+"],
                 ("+",), {}, {"+": 1})
        for sign in (*signs, Uneasy()):
            self.assert_row_refused(("put", "x", sign, (1,)), BadRow)

    def test_the_sign_of_a_sum(self):
        signs = ("", "+-", "/", "<=", ">", "==", "<>", " +", "y", "1", None, 0, 1, True, b"+", [], ["+"], ("+",), {})
        for sign in (*signs, Uneasy()):
            self.assert_row_refused(("put", "x", "+", (sign, "y", 1)), BadRow)
            self.assert_row_refused(("put", "x", "-", (sign, "y", 1)), BadRow)

    def test_the_sign_of_a_question(self):
        signs = ("", "+", "-", "*", "<=", ">", "==", "<>", "!", " <", "y", None, 0, 1, True, b"<", [], ["<"], ("<",),
                 {})
        for sign in (*signs, Uneasy()):
            for word in ("if", "round"):
                self.assert_row_refused((word, (sign, "y", 1), [], [], R), BadRow)
                self.assert_row_refused((word, Q, [], [], (sign, "y", 1)), BadRow)


class BadSumTest(RowsTest):
    def test_a_sum_that_is_no_tuple_of_its_length(self):
        sums = (None, (), 1, "y", "+y1", [1], ["y"], ["+", "y", 1], ("y", 1), ("+", "y"), ("+", "y", 1, 2), {},
                {"y": 1}, True, b"y", (1, 2, 3, 4), ("y", "+", 1))
        for the_sum in (*sums, Uneasy()):
            self.assert_row_refused(("put", "x", "+", the_sum), BadRow)
            self.assert_row_refused(("put", "x", "-", the_sum), BadRow)

    def test_a_question_that_is_no_tuple_of_its_length(self):
        questions = (None, (), 1, "y", "=y1", ("y",), (1,), ["=", "y", 1], ("=", "y"), ("=", "y", 1, 2), {}, True,
                     b"=y1", ("y", "=", 1))
        for question in (*questions, Uneasy()):
            for word in ("if", "round"):
                self.assert_row_refused((word, question, [], [], R), BadRow)
                self.assert_row_refused((word, Q, [], [], question), BadRow)

    def test_a_text_in_a_sum_that_is_no_name(self):
        for text in ("", "Y", "1", "y z", "abcdefg", "+", "=", *BARRED):
            self.assert_row_refused(("put", "x", "+", (text,)), BadName)
            for sign in SUM_SIGNS:
                self.assert_refused(program_of(("put", "x", "+", (sign, text, 1))), BadName, ("main", 0))
                self.assert_refused(program_of(("put", "x", "+", (sign, "y", text))), BadName, ("main", 0))
        self.assert_row_refused(("put", "x", "-", ("*", "Y", "z")), BadName)
        self.assert_row_refused(("put", "x", "-", ("*", "y", "Z")), BadName)

    def test_a_text_in_a_question_that_is_no_name(self):
        for text in ("", "Y", "1", "y z", "abcdefg", "+", "=", *BARRED):
            for word in ("if", "round"):
                for sign in QUESTION_SIGNS:
                    self.assert_refused(program_of((word, (sign, text, 1), [], [], R)), BadName, ("main", 0))
                    self.assert_refused(program_of((word, (sign, "y", text), [], [], R)), BadName, ("main", 0))
                    self.assert_refused(program_of((word, Q, [], [], (sign, text, 1))), BadName, ("main", 0))
                    self.assert_refused(program_of((word, Q, [], [], (sign, 1, text))), BadName, ("main", 0))
        self.assert_row_refused(("if", ("=", "Y", "z"), [], [], R), BadName)
        self.assert_row_refused(("round", Q, [], [], ("=", "y", "Z")), BadName)

    def test_another_thing_in_a_sum_that_is_no_number(self):
        for thing in (*NO_NUMBERS, Uneasy()):
            self.assert_row_refused(("put", "x", "+", (thing,)), BadNumber)
            for sign in SUM_SIGNS:
                self.assert_refused(program_of(("put", "x", "-", (sign, thing, 1))), BadNumber, ("main", 0))
                self.assert_refused(program_of(("put", "x", "-", (sign, "y", thing))), BadNumber, ("main", 0))
        self.assert_row_refused(("put", "x", "-", ("*", 1000000, "z")), BadNumber)
        self.assert_row_refused(("put", "x", "-", ("*", "y", -1)), BadNumber)

    def test_a_number_too_long_to_be_written(self):
        with self.assertRaises(BadNumber) as caught:
            checked(program_of(ADD, ("put", "x", "+", (10 ** 5000,))))
        self.assertEqual(caught.exception.at, ("main", 1))

    def test_another_thing_in_a_question_that_is_no_number(self):
        for thing in (*NO_NUMBERS, Uneasy()):
            for word in ("if", "round"):
                for sign in QUESTION_SIGNS:
                    self.assert_refused(program_of((word, (sign, thing, 1), [], [], R)), BadNumber, ("main", 0))
                    self.assert_refused(program_of((word, (sign, "y", thing), [], [], R)), BadNumber, ("main", 0))
                    self.assert_refused(program_of((word, Q, [], [], (sign, thing, "y"))), BadNumber, ("main", 0))
                    self.assert_refused(program_of((word, Q, [], [], (sign, 1, thing))), BadNumber, ("main", 0))
        self.assert_row_refused(("round", ("=", True, "z"), [], [], R), BadNumber)
        self.assert_row_refused(("if", Q, [], [], ("=", "y", 1000000)), BadNumber)


class OwnBoxTest(RowsTest):
    def test_the_box_of_a_put_stands_in_its_sum(self):
        for sign in ("+", "-"):
            self.assert_row_refused(("put", "x", sign, ("x",)), OwnBox)
            for other in SUM_SIGNS:
                self.assert_refused(program_of(("put", "x", sign, (other, "x", 1))), OwnBox, ("main", 0))
                self.assert_refused(program_of(("put", "x", sign, (other, "y", "x"))), OwnBox, ("main", 0))
                self.assert_refused(program_of(("put", "x", sign, (other, "x", "x"))), OwnBox, ("main", 0))
        self.assert_row_refused(("put", "t0", "-", ("*", "t0", 2)), OwnBox)
        self.assert_row_refused(("put", "t0", "+", ("<", 2, "t0")), OwnBox)

    def test_a_name_that_is_a_part_of_another_one_is_not_the_box(self):
        self.assert_many(program_of(("put", "a", "+", ("ab",)), ("put", "ab", "+", ("+", "a", "b"))), 2)


class NoListTest(RowsTest):
    def test_rows_within_a_row_that_are_no_list(self):
        for rows in (*NO_LISTS, Uneasy()):
            for word in ("if", "round"):
                self.assert_row_refused((word, Q, rows, [], R), BadRow)
                self.assert_row_refused((word, Q, [], rows, R), BadRow)
                self.assert_refused(program_of((word, Q, [ADD], rows, R)), BadRow, ("main", 0))


if __name__ == "__main__":
    unittest.main()
