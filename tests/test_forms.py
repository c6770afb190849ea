"""The forms of rows, and how deep they stand."""

import unittest

from cases import ADD, GOOD_ROWS, Q, R, RowsTest, Uneasy, program_of
from turnedrun.errors import BadName, BadRow, TooDeep
from turnedrun.rows import checked


def wrapped(row, times):
    """A row within as many other ones, in YES, NO, BODY and BACK by turns, and the place of it behind its block."""
    place = (0,)
    for number in range(times):
        if number % 4 == 0:
            row, place = ("if", Q, [row], [], R), (0, 0, *place)
        elif number % 4 == 1:
            row, place = ("round", Q, [], [ADD, row], R), (0, 1, 1, *place[1:])
        elif number % 4 == 2:
            row, place = ("round", Q, [ADD, ADD, row], [], R), (0, 0, 2, *place[1:])
        else:
            row, place = ("if", Q, [], [row], R), (0, 1, *place)
    return row, place


class BadFormTest(RowsTest):
    def test_a_row_that_is_no_tuple(self):
        rows = (None, [], ["push", "x"], list(ADD), "push x", "pu", b"push", 0, 1, True, {}, {"push": "x"}, object())
        for row in (*rows, Uneasy()):
            self.assert_row_refused(row, BadRow)

    def test_a_row_without_a_first_word(self):
        self.assert_row_refused((), BadRow)

    def test_a_first_word_that_is_no_text(self):
        for word in (None, 0, 1, True, b"push", [], ["push"], ("push",), {}, {"push": 1}, Uneasy()):
            self.assert_row_refused((word, "x"), BadRow)
            self.assert_row_refused((word,), BadRow)

    def test_a_first_word_that_is_none_of_the_eight(self):
        for word in ("", "pus", "pushx", "Push", "PUSH", " push", "push ", "while", "set", "block", "else", "x", "+"):
            self.assert_row_refused((word, "x"), BadRow)
            self.assert_row_refused((word, "x", "y"), BadRow)
            self.assert_row_refused((word,), BadRow)
        self.assert_row_refused(("set", "x", "+", (1,)), BadRow)
        self.assert_row_refused(("while", Q, [], [], R), BadRow)

    def test_each_word_has_its_own_length(self):
        for row in GOOD_ROWS:
            for length in range(1, 8):
                if length != len(row):
                    self.assert_refused(program_of((*row, *row)[:length]), BadRow, ("main", 0))
            self.assert_row_refused(row[:-1], BadRow)
            self.assert_row_refused((*row, "x"), BadRow)

    def test_the_form_is_found_ahead_of_the_parts(self):
        self.assert_row_refused(("put", "X", "+", (1,), 0), BadRow)
        self.assert_row_refused(("push", "X", "y"), BadRow)
        self.assert_row_refused(("call", "nil", "nil"), BadRow)
        self.assert_row_refused(("swap", "X"), BadRow)


class TooDeepTest(RowsTest):
    def test_rows_at_level_8_are_good(self):
        for row in (ADD, ("if", Q, [], [], R), ("round", Q, [], [], R), ("push", "x")):
            for times in range(8):
                with self.subTest(row=row, times=times):
                    deep, place = wrapped(row, times)
                    others = sum(1 if number % 4 == 1 else 2 if number % 4 == 2 else 0 for number in range(times))
                    self.assertEqual(checked(program_of(deep)), times + 1 + others)

    def test_8_levels_of_one_kind_only_are_good_and_9_are_not(self):
        for word in ("if", "round"):
            for part in (2, 3):
                row = ADD
                place = (0,)
                for level in range(2, 9):
                    row = (word, Q, [row], [], R) if part == 2 else (word, Q, [], [row], R)
                    place = (0, part - 2, *place)
                    self.assertEqual(checked(program_of(row)), level)
                row = (word, Q, [row], [], R) if part == 2 else (word, Q, [], [row], R)
                self.assert_refused(program_of(row), TooDeep, ("main", 0, part - 2, *place))

    def test_a_row_of_a_good_form_at_level_9_is_too_deep(self):
        for row in GOOD_ROWS:
            deep, place = wrapped(row, 8)
            self.assertEqual(len(place), 17)
            self.assert_refused(program_of(deep), TooDeep, ("main", *place))
            self.assert_refused([("a", [ADD]), ("b", [ADD, deep])], TooDeep, ("b", 1, *place[1:]))

    def test_it_is_found_ahead_of_the_parts(self):
        rows = (("put", "X", 1, None), ("swap", 1, 2), ("push", "X"), ("pull", None), ("if", 1, 2, 3, 4),
                ("round", 1, 2, 3, 4), ("call", "nil"), ("undo", None), ("put", "x", "+", ("x",)))
        for row in rows:
            deep, place = wrapped(row, 8)
            self.assert_refused(program_of(deep), TooDeep, ("main", *place))

    def test_a_bad_form_at_level_9_is_found_ahead_of_it(self):
        for row in (None, (), ("push",), ("push", "x", "y"), ("while", Q), (1, 2), ["push", "x"], Uneasy()):
            deep, place = wrapped(row, 8)
            self.assert_refused(program_of(deep), BadRow, ("main", *place))

    def test_no_row_deeper_than_level_9_is_looked_at(self):
        for row in (None, ADD, ("push", "X")):
            deep, place = wrapped(("if", Q, [row], [], R), 8)
            self.assert_refused(program_of(deep), TooDeep, ("main", *place))

    def test_what_is_wrong_at_level_8_is_found_ahead_of_the_row_at_level_9(self):
        deep, place = wrapped(("if", Q, [ADD], [], 4), 7)
        self.assert_refused(program_of(deep), BadRow, ("main", *place))
        deep, place = wrapped(("round", ("=", "X", 0), [ADD], [], R), 7)
        self.assert_refused(program_of(deep), BadName, ("main", *place))

    def test_the_second_row_at_level_9_is_not_the_first_wrong_thing(self):
        deep, place = wrapped(("if", Q, [ADD, None], [None], R), 7)
        self.assert_refused(program_of(deep), TooDeep, ("main", *place, 0, 0))
        deep, place = wrapped(("if", Q, [], [ADD, None], R), 7)
        self.assert_refused(program_of(deep), TooDeep, ("main", *place, 1, 0))

    def test_the_levels_of_one_row_do_not_count_for_the_next_one(self):
        deep, place = wrapped(ADD, 7)
        self.assertEqual(checked(program_of(deep, deep)), 2 * checked(program_of(deep)))
        self.assertEqual(checked([("a", [deep]), ("b", [deep])]), 2 * checked(program_of(deep)))

    def test_rows_that_hold_themselves_are_too_deep(self):
        rows = [ADD]
        rows.append(("round", Q, [], rows, R))
        with self.assertRaises(TooDeep) as caught:
            checked([("main", rows)])
        self.assertEqual(caught.exception.at, ("main", *(1, 1) * 8, 0))


if __name__ == "__main__":
    unittest.main()
