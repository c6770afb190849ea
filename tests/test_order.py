"""Of two wrong things in a program, which one turnedrun.rows finds first."""

import unittest

from cases import ADD, Q, R, RowsTest, program_of
from turnedrun.errors import BadName, BadNumber, BadRow


class OrderTest(RowsTest):
    def test_parts_of_a_put_from_the_left(self):
        self.assert_row_refused(("put", "X", "*", None), BadName)
        self.assert_row_refused(("put", "X", "+", (-1,)), BadName)
        self.assert_row_refused(("put", "x", "*", (-1,)), BadRow)
        self.assert_row_refused(("put", "x", "*", ("x",)), BadRow)
        self.assert_row_refused(("put", "X", "+", None), BadName)

    def test_the_sign_of_a_sum_ahead_of_its_things(self):
        self.assert_row_refused(("put", "x", "+", ("/", "Y", -1)), BadRow)
        self.assert_row_refused(("put", "x", "+", ("Y", -1)), BadRow)
        self.assert_row_refused(("if", ("+", "Y", -1), [], [], R), BadRow)

    def test_the_things_from_the_left(self):
        self.assert_row_refused(("put", "x", "+", ("+", "Y", -1)), BadName)
        self.assert_row_refused(("put", "x", "+", ("+", -1, "Y")), BadNumber)
        self.assert_row_refused(("if", ("=", "Y", -1), [], [], R), BadName)
        self.assert_row_refused(("if", ("=", -1, "Y"), [], [], R), BadNumber)
        self.assert_row_refused(("round", Q, [], [], ("=", "Y", -1)), BadName)
        self.assert_row_refused(("round", Q, [], [], ("=", -1, "Y")), BadNumber)

    def test_the_own_box_behind_the_whole_sum(self):
        self.assert_row_refused(("put", "x", "+", ("+", "x", "Y")), BadName)
        self.assert_row_refused(("put", "x", "+", ("+", "x", 1000000)), BadNumber)
        self.assert_row_refused(("put", "x", "+", ("/", "x", "x")), BadRow)
        self.assert_row_refused(("put", "x", "+", ("x", "x")), BadRow)

    def test_parts_of_an_if_and_a_round_from_the_left(self):
        for word in ("if", "round"):
            self.assert_row_refused((word, ("=", "Y", 0), None, [], R), BadName)
            self.assert_row_refused((word, ("=", -1, 0), [], None, R), BadNumber)
            self.assert_row_refused((word, ("=", "Y", 0), [], [], None), BadName)
            self.assert_row_refused((word, None, [], [], ("=", "Y", 0)), BadRow)
            self.assert_row_refused((word, Q, None, [], ("=", "Y", 0)), BadRow)
            self.assert_row_refused((word, Q, [], None, ("=", "Y", 0)), BadRow)
            self.assert_row_refused((word, Q, [], None, ("=", -1, 0)), BadRow)
            self.assert_row_refused((word, ("=", "Y", 0), [], [], ("=", -1, 0)), BadName)

    def test_the_names_of_a_swap_are_both_wrong(self):
        self.assert_row_refused(("swap", "X", None), BadName)

    def test_a_row_ahead_of_those_within_it(self):
        for word in ("if", "round"):
            self.assert_refused(program_of((word, Q, [None], [], ("=", "Y", 0))), BadName, ("main", 0))
            self.assert_refused(program_of((word, Q, [], [("push", "X")], ("=", -1, 0))), BadNumber, ("main", 0))
            self.assert_refused(program_of((word, Q, [("push", "X")], None, R)), BadRow, ("main", 0))
            self.assert_refused(program_of((word, ("=", "Y", 0), [None], [], R)), BadName, ("main", 0))

    def test_the_rows_within_a_row_ahead_of_the_next_row(self):
        for word in ("if", "round"):
            row = (word, Q, [ADD, ("push", "X")], [], R)
            self.assert_refused(program_of(row, None), BadName, ("main", 0, 0, 1))
            row = (word, Q, [], [ADD, ("push", "X")], R)
            self.assert_refused(program_of(row, None), BadName, ("main", 0, 1, 1))

    def test_the_first_rows_within_a_row_ahead_of_the_second_ones(self):
        for word in ("if", "round"):
            row = (word, Q, [ADD, ("push", "X")], [None], R)
            self.assert_refused(program_of(row), BadName, ("main", 0, 0, 1))
            row = (word, Q, [("if", Q, [], [("push", "X")], R)], [None], R)
            self.assert_refused(program_of(row), BadName, ("main", 0, 0, 0, 1, 0))

    def test_an_earlier_row_ahead_of_a_later_one(self):
        self.assert_refused(program_of(ADD, ("push", "X"), None), BadName, ("main", 1))
        self.assert_refused(program_of(ADD, None, ("push", "X")), BadRow, ("main", 1))

    def test_the_rows_of_a_block_ahead_of_those_of_the_next_one(self):
        self.assert_refused([("b", [ADD, ("push", "X")]), ("a", [None])], BadName, ("b", 1))
        self.assert_refused([("b", [("if", Q, [], [("push", "X")], R)]), ("a", [None])], BadName, ("b", 0, 1, 0))
        self.assert_refused([("b", []), ("a", [None]), ("c", [("push", "X")])], BadRow, ("a", 0))


if __name__ == "__main__":
    unittest.main()
