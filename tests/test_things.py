"""Names, numbers, sums and questions of turnedrun.things."""

import unittest

from cases import BARRED, Uneasy
from turnedrun.things import asked, is_name, is_number, reckoned

OTHER_KINDS = (None, [], ["a"], (), ("a",), {}, {"a": 1}, b"", b"a", {"a"}, 1.0, 0.5, object(), str, int, len)


class IsNameTest(unittest.TestCase):
    def test_ordinary_names(self):
        for name in ("x", "ab", "total", "t0", "a1b2c3", "main", "x9"):
            with self.subTest(name=name):
                self.assertIs(is_name(name), True)

    def test_every_letter_may_stand_first_and_every_sign_behind_it(self):
        for letter in "abcdefghijklmnopqrstuvwxyz":
            self.assertIs(is_name(letter), True, letter)
            self.assertIs(is_name("q" + letter), True, letter)
        for figure in "0123456789":
            self.assertIs(is_name("q" + figure), True, figure)
            self.assertIs(is_name("qqqqq" + figure), True, figure)

    def test_names_have_1_to_6_signs(self):
        self.assertIs(is_name(""), False)
        self.assertIs(is_name("a"), True)
        self.assertIs(is_name("abcde"), True)
        self.assertIs(is_name("abcdef"), True)
        self.assertIs(is_name("abcdefg"), False)
        self.assertIs(is_name("a23456"), True)
        self.assertIs(is_name("a234567"), False)
        self.assertIs(is_name("a" * 1000), False)

    def test_no_figure_stands_first(self):
        for figure in "0123456789":
            with self.subTest(figure=figure):
                self.assertIs(is_name(figure), False)
                self.assertIs(is_name(figure + "a"), False)

    def test_capital_letters_stand_nowhere(self):
        for text in ("A", "Ab", "aB", "abC", "abcdeF", "Z", "aZ"):
            with self.subTest(text=text):
                self.assertIs(is_name(text), False)

    def test_other_signs_stand_nowhere(self):
        for sign in "_- +*<>=.!{`@[/:\n\t\u00e9\u00df\u0430\u0660\u00b2":
            with self.subTest(sign=sign):
                self.assertIs(is_name(sign), False)
                self.assertIs(is_name(sign + "a"), False)
                self.assertIs(is_name("a" + sign), False)
                self.assertIs(is_name("a" + sign + "b"), False)

    def test_the_barred_words_are_no_names(self):
        for word in BARRED:
            with self.subTest(word=word):
                self.assertIs(is_name(word), False)

    def test_what_only_looks_like_a_barred_word_is_a_name(self):
        for word in BARRED:
            for text in (word + "0", word[:-1], "x" + word):
                if len(text) <= 6 and text not in BARRED:
                    with self.subTest(text=text):
                        self.assertIs(is_name(text), True)
        for text in ("put", "swap", "round", "done", "main"):
            with self.subTest(text=text):
                self.assertIs(is_name(text), True)

    def test_things_of_other_kinds_are_no_names(self):
        for thing in (*OTHER_KINDS, 0, 1, True, False):
            with self.subTest(thing=thing):
                self.assertIs(is_name(thing), False)
        self.assertIs(is_name(Uneasy()), False)


class IsNumberTest(unittest.TestCase):
    def test_numbers_are_0_to_999999(self):
        for number in (0, 1, 2, 10, 500000, 999998, 999999):
            with self.subTest(number=number):
                self.assertIs(is_number(number), True)

    def test_what_is_below_or_above_is_no_number(self):
        for number in (-1, -2, -999999, 1000000, 1000001, 10 ** 5000, -(10 ** 5000)):
            self.assertIs(is_number(number), False)

    def test_true_and_false_are_no_numbers(self):
        self.assertIs(is_number(True), False)
        self.assertIs(is_number(False), False)

    def test_things_of_other_kinds_are_no_numbers(self):
        for thing in (*OTHER_KINDS, "", "0", "7", "a", float("nan"), 3j):
            with self.subTest(thing=thing):
                self.assertIs(is_number(thing), False)
        self.assertIs(is_number(Uneasy()), False)


class ReckonedTest(unittest.TestCase):
    def assert_number(self, the_sum, boxes, wanted):
        with self.subTest(sum=the_sum, boxes=boxes):
            kept = dict(boxes)
            told = reckoned(the_sum, boxes)
            self.assertIs(type(told), int)
            self.assertEqual(told, wanted)
            self.assertEqual(boxes, kept)

    def test_a_sum_of_one_thing(self):
        self.assert_number((0,), {}, 0)
        self.assert_number((7,), {"a": 3}, 7)
        self.assert_number((999999,), {}, 999999)
        self.assert_number(("a",), {"a": 3}, 3)
        self.assert_number(("a",), {"a": 999999, "b": 1}, 999999)

    def test_a_name_that_is_not_in_the_dict_holds_0(self):
        self.assert_number(("b",), {"a": 3}, 0)
        self.assert_number(("b",), {}, 0)
        self.assert_number(("+", "b", "a"), {"a": 3}, 3)
        self.assert_number(("-", "b", "a"), {"a": 3}, 999997)
        self.assert_number(("*", "a", "b"), {"a": 3}, 0)
        self.assert_number(("<", "b", "a"), {"a": 3}, 1)
        self.assert_number(("=", "b", 0), {"a": 3}, 1)
        self.assert_number(("=", "b", "c"), {}, 1)
        self.assert_number((">=", "b", 1), {}, 0)
        self.assert_number(("!=", "b", 0), {}, 0)

    def test_plus(self):
        self.assert_number(("+", 2, 3), {}, 5)
        self.assert_number(("+", "a", 3), {"a": 4}, 7)
        self.assert_number(("+", 3, "a"), {"a": 4}, 7)
        self.assert_number(("+", "a", "b"), {"a": 4, "b": 5}, 9)
        self.assert_number(("+", "a", "a"), {"a": 4}, 8)

    def test_plus_at_and_above_the_limit(self):
        self.assert_number(("+", 999998, 1), {}, 999999)
        self.assert_number(("+", 999999, 1), {}, 0)
        self.assert_number(("+", 999999, 2), {}, 1)
        self.assert_number(("+", "a", "b"), {"a": 999999, "b": 999999}, 999998)

    def test_minus(self):
        self.assert_number(("-", 5, 3), {}, 2)
        self.assert_number(("-", 5, 5), {}, 0)
        self.assert_number(("-", "a", "b"), {"a": 9, "b": 4}, 5)
        self.assert_number(("-", 9, "b"), {"a": 9, "b": 4}, 5)
        self.assert_number(("-", "a", 4), {"a": 9}, 5)

    def test_minus_below_0_is_1000000_more(self):
        self.assert_number(("-", 0, 1), {}, 999999)
        self.assert_number(("-", 3, 5), {}, 999998)
        self.assert_number(("-", 0, 999999), {}, 1)
        self.assert_number(("-", "a", "b"), {"a": 4, "b": 9}, 999995)

    def test_times(self):
        self.assert_number(("*", 6, 7), {}, 42)
        self.assert_number(("*", 0, 999999), {}, 0)
        self.assert_number(("*", "a", "b"), {"a": 12, "b": 12}, 144)
        self.assert_number(("*", "a", 2), {"a": 12}, 24)
        self.assert_number(("*", 3, "a"), {"a": 12}, 36)

    def test_times_at_and_above_the_limit(self):
        self.assert_number(("*", 999, 1001), {}, 999999)
        self.assert_number(("*", 1000, 1000), {}, 0)
        self.assert_number(("*", 1000, 1001), {}, 1000)
        self.assert_number(("*", 999999, 999999), {}, 1)

    def test_the_four_signs_of_a_question_come_to_1_or_0(self):
        for first, second, less, equal in ((1, 2, 1, 0), (2, 2, 0, 1), (3, 2, 0, 0), (0, 999999, 1, 0), (0, 0, 0, 1)):
            boxes = {"a": first, "b": second}
            for left in (first, "a"):
                for right in (second, "b"):
                    self.assert_number(("<", left, right), boxes, less)
                    self.assert_number(("=", left, right), boxes, equal)
                    self.assert_number((">=", left, right), boxes, 1 - less)
                    self.assert_number(("!=", left, right), boxes, 1 - equal)

    def test_a_name_is_looked_up_whatever_it_is_called(self):
        self.assert_number(("put",), {"put": 8, "a": 1}, 8)
        self.assert_number(("-", "t0", "c1"), {"t0": 8, "c1": 1}, 7)

    def test_nothing_is_kept_between_two_calls(self):
        the_sum = ("+", "a", 1)
        self.assertEqual(reckoned(the_sum, {"a": 4}), 5)
        self.assertEqual(reckoned(the_sum, {"a": 6}), 7)
        self.assertEqual(reckoned(the_sum, {}), 1)
        self.assertEqual(reckoned(the_sum, {"a": 4}), 5)


class AskedTest(unittest.TestCase):
    def assert_asked(self, question, boxes, wanted):
        with self.subTest(question=question, boxes=boxes):
            kept = dict(boxes)
            self.assertIs(asked(question, boxes), wanted)
            self.assertEqual(boxes, kept)

    def test_the_four_questions_over_numbers_and_names(self):
        pairs = ((1, 2, True, False), (2, 2, False, True), (3, 2, False, False), (9, 10, True, False),
                 (0, 999999, True, False), (999999, 0, False, False), (0, 0, False, True))
        for first, second, less, equal in pairs:
            boxes = {"a": first, "b": second}
            for left in (first, "a"):
                for right in (second, "b"):
                    self.assert_asked(("<", left, right), boxes, less)
                    self.assert_asked(("=", left, right), boxes, equal)
                    self.assert_asked((">=", left, right), boxes, not less)
                    self.assert_asked(("!=", left, right), boxes, not equal)

    def test_a_name_that_is_not_in_the_dict_holds_0(self):
        self.assert_asked(("=", "a", 0), {}, True)
        self.assert_asked(("=", "a", "b"), {}, True)
        self.assert_asked(("!=", "a", 0), {"b": 1}, False)
        self.assert_asked(("<", "a", "b"), {"b": 1}, True)
        self.assert_asked((">=", "a", "b"), {"b": 1}, False)
        self.assert_asked((">=", "b", "a"), {"b": 1}, True)

    def test_a_box_asked_against_itself(self):
        for boxes in ({}, {"a": 5}):
            self.assert_asked(("<", "a", "a"), boxes, False)
            self.assert_asked(("=", "a", "a"), boxes, True)
            self.assert_asked((">=", "a", "a"), boxes, True)
            self.assert_asked(("!=", "a", "a"), boxes, False)

    def test_nothing_is_kept_between_two_calls(self):
        question = ("<", "a", 5)
        self.assertIs(asked(question, {"a": 4}), True)
        self.assertIs(asked(question, {"a": 5}), False)
        self.assertIs(asked(question, {"a": 4}), True)


class PlaceOfTheInterfaceTest(unittest.TestCase):
    def test_each_function_is_defined_in_the_file(self):
        for function in (is_name, is_number, reckoned, asked):
            self.assertEqual(function.__module__, "turnedrun.things")


if __name__ == "__main__":
    unittest.main()
