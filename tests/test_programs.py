"""How many rows turnedrun.rows counts, and which programs it refuses as a whole."""

import unittest

from cases import ADD, GOOD_ROWS, NO_LISTS, NO_NAMES, Q, QUESTION_SIGNS, R, SUM_SIGNS, RowsTest, Uneasy, program_of
from turnedrun.errors import BadName, BadProgram
from turnedrun.rows import checked


class CountTest(RowsTest):
    def test_blocks_without_rows(self):
        self.assert_many([("main", [])], 0)
        self.assert_many([("a", []), ("b", [])], 0)

    def test_rows_of_every_kind_count_one_each(self):
        rows = [*GOOD_ROWS, ("put", "x", "-", ("*", "y", 2))]
        for row in rows:
            self.assert_many(program_of(row), 1)
        self.assert_many(program_of(*rows), 9)

    def test_rows_of_all_blocks_count(self):
        self.assert_many([("a", [ADD]), ("b", [ADD, ADD]), ("c", [ADD, ADD, ADD, ADD])], 7)

    def test_rows_in_rows_count(self):
        self.assert_many(program_of(("if", Q, [ADD, ADD], [], R)), 3)
        self.assert_many(program_of(("if", Q, [], [ADD, ADD, ADD], R)), 4)
        self.assert_many(program_of(("round", Q, [ADD], [], R)), 2)
        self.assert_many(program_of(("round", Q, [], [ADD, ADD], R)), 3)
        inner = ("round", Q, [ADD, ADD], [ADD], R)
        outer = ("if", Q, [ADD, inner], [inner, inner, ADD], R)
        self.assert_many(program_of(outer), 15)
        self.assert_many([("a", [outer, ADD]), ("b", [inner])], 20)

    def test_12_blocks(self):
        self.assert_many([(f"b{number}", [ADD]) for number in range(12)], 12)

    def test_a_block_may_have_the_name_of_a_box(self):
        self.assert_many([("x", [ADD, ("call", "x")])], 2)

    def test_a_box_may_be_named_like_a_first_word_that_is_not_barred(self):
        self.assert_many(program_of(("swap", "put", "round"), ("put", "swap", "+", ("put",))), 2)

    def test_edges_of_the_parts_that_are_good(self):
        self.assert_many(program_of(("put", "a", "+", (0,))), 1)
        self.assert_many(program_of(("put", "a", "-", (999999,))), 1)
        self.assert_many(program_of(("put", "abcdef", "-", ("a12345",))), 1)
        self.assert_many(program_of(("swap", "x", "x")), 1)

    def test_every_sign_of_a_sum_and_of_a_question(self):
        for sign in SUM_SIGNS:
            self.assert_many(program_of(("put", "x", "+", (sign, "y", 1))), 1)
            self.assert_many(program_of(("put", "x", "-", (sign, 2, "z"))), 1)
        for sign in QUESTION_SIGNS:
            self.assert_many(program_of(("if", (sign, "y", 1), [], [], (sign, 0, "x"))), 1)
            self.assert_many(program_of(("round", (sign, 3, 1), [], [], (sign, "x", "x"))), 1)

    def test_a_call_of_any_block_that_is_there(self):
        for word in ("call", "undo"):
            for name in ("main", "b", "last"):
                self.assert_many([("main", [(word, name)]), ("b", [(word, name)]), ("last", [])], 2)

    def test_the_same_list_may_stand_in_several_places(self):
        rows = [ADD, ADD]
        self.assert_many([("a", rows), ("b", rows), ("c", [("if", Q, rows, rows, R)])], 9)

    def test_nothing_is_kept_between_two_calls(self):
        rows = [ADD]
        program = [("main", rows)]
        self.assertEqual(checked(program), 1)
        rows.append(("call", "work"))
        self.assert_refused(program, BadName, ("main", 1))
        program.append(("work", [ADD]))
        self.assertEqual(checked(program), 3)
        self.assertEqual(checked(program), 3)
        program.pop()
        self.assert_refused(program, BadName, ("main", 1))

    def test_the_function_is_defined_in_the_file(self):
        self.assertEqual(checked.__module__, "turnedrun.rows")


class BadProgramTest(RowsTest):
    def test_what_is_no_list(self):
        for program in (None, (), (("main", []),), {}, {"main": []}, "main", b"main", 0, 1, True, 1.5, ("main", [])):
            self.assert_refused(program, BadProgram, None)
        self.assert_refused(Uneasy(), BadProgram, None)
        self.assert_refused(object(), BadProgram, None)

    def test_no_block_at_all_and_13_blocks(self):
        self.assert_refused([], BadProgram, None)
        self.assert_refused([(f"b{number}", []) for number in range(13)], BadProgram, None)
        self.assert_refused([("main", [])] * 13, BadProgram, None)

    def test_a_block_that_is_no_tuple_of_two(self):
        blocks = (None, [], ["main", []], (), ("main",), ("main", [], []), ([], "main"), "ab", 0, True,
                  {"a": 1, "b": 2})
        for block in (*blocks, Uneasy()):
            self.assert_refused([block], BadProgram, None)
            self.assert_refused([("main", []), block], BadProgram, None)
            self.assert_refused([("main", []), ("b", []), block, ("c", [])], BadProgram, None)

    def test_a_block_whose_name_is_no_good_one(self):
        for name in (*NO_NAMES, Uneasy()):
            self.assert_refused([(name, [])], BadProgram, None)
            self.assert_refused([("main", []), (name, [])], BadProgram, None)

    def test_a_block_whose_rows_are_no_list(self):
        for rows in (*NO_LISTS, Uneasy()):
            self.assert_refused([("main", rows)], BadProgram, None)
            self.assert_refused([("main", []), ("b", rows)], BadProgram, None)

    def test_it_is_found_ahead_of_two_blocks_of_one_name(self):
        self.assert_refused([("a", []), ("a", []), ("b", None)], BadProgram, None)
        self.assert_refused([("a", []), ("a", []), ("B", [])], BadProgram, None)
        self.assert_refused([("a", []), ("a", []), None], BadProgram, None)

    def test_it_is_found_ahead_of_a_wrong_row(self):
        self.assert_refused([("a", [None]), ("b", None)], BadProgram, None)
        self.assert_refused([(f"b{number}", [None]) for number in range(13)], BadProgram, None)

    def test_a_program_that_holds_itself(self):
        program = []
        program.append(program)
        with self.assertRaises(BadProgram) as caught:
            checked(program)
        self.assertIsNone(caught.exception.at)


class TwoOfOneNameTest(RowsTest):
    def test_two_blocks_of_one_name(self):
        self.assert_refused([("a", []), ("a", [])], BadName, None)
        self.assert_refused([("a", []), ("b", []), ("a", [ADD])], BadName, None)
        self.assert_refused([("a", []), ("b", []), ("c", []), ("b", [])], BadName, None)
        self.assert_refused([(f"b{number}", []) for number in range(11)] + [("b0", [])], BadName, None)

    def test_they_are_found_ahead_of_a_wrong_row(self):
        self.assert_refused([("a", [None]), ("a", [])], BadName, None)
        self.assert_refused([("c", [("put", 1, 2, 3)]), ("a", []), ("a", [])], BadName, None)


if __name__ == "__main__":
    unittest.main()
