"""Plain rows told as a program, and told once."""

import unittest

from cases import SUM_SIGNS
from runcases import ENOUGH, Samples, ToldTest
from turnedrun.plain import plain_run, told_once, translated
from turnedrun.rows import checked
from turnedrun.running import run, run_back

OPPOSITE = {"<": ">=", ">=": "<", "=": "!=", "!=": "="}
UP = ("set", "x", ("+", "x", 1))
UP_TOLD = [("put", "t0", "+", ("+", "x", 1)), ("swap", "x", "t0"), ("push", "t0")]
SET = ("set", "y", (3,))
SET_TOLD = [("put", "t0", "+", (3,)), ("swap", "y", "t0"), ("push", "t0")]
Q = ("<", "x", "n")


def if_told(level, question, yes, no):
    box = f"w{level}"
    return [("put", box, "+", question), ("if", ("=", box, 1), yes, no, ("=", box, 1)), ("push", box)]


def while_told(level, question, rows):
    box = f"c{level}"
    back = [*rows, ("put", box, "+", (1,))]
    return [("round", ("=", box, 0), [], back, (OPPOSITE[question[0]], *question[1:])), ("push", box)]


class TranslatedTest(ToldTest):
    def assert_translated(self, rows, wanted):
        with self.subTest(rows=rows):
            self.assert_exactly(self.told_by(translated, rows), [("main", wanted)])
            checked(translated(rows))
            main = [("call", "work"), ("put", "out0", "+", ("x",)), ("undo", "work")]
            self.assert_exactly(self.told_by(told_once, rows, "x"), [("main", main), ("work", wanted)])
            checked(told_once(rows, "x"))

    def test_no_rows(self):
        self.assert_translated([], [])

    def test_a_set(self):
        self.assert_translated([UP], UP_TOLD)
        self.assert_translated([SET], SET_TOLD)
        for sign in SUM_SIGNS:
            row = ("set", "abcdef", (sign, "y", 4))
            self.assert_translated(
                [row], [("put", "t0", "+", (sign, "y", 4)), ("swap", "abcdef", "t0"), ("push", "t0")])

    def test_an_if(self):
        for question in (Q, ("=", 1, "x"), (">=", "x", "x"), ("!=", 1, 2)):
            self.assert_translated([("if", question, [UP], [SET])], if_told(1, question, UP_TOLD, SET_TOLD))
            self.assert_translated([("if", question, [], [])], if_told(1, question, [], []))
            self.assert_translated([("if", question, [UP, SET], [])],
                                   if_told(1, question, [*UP_TOLD, *SET_TOLD], []))

    def test_a_while(self):
        for question in (Q, ("=", 1, "x"), (">=", "x", "x"), ("!=", 1, 2)):
            self.assert_translated([("while", question, [UP])], while_told(1, question, UP_TOLD))
            self.assert_translated([("while", question, [])], while_told(1, question, []))
            self.assert_translated([("while", question, [UP, SET])],
                                   while_told(1, question, [*UP_TOLD, *SET_TOLD]))

    def test_a_while_row_by_row(self):
        wanted = [("round", ("=", "c1", 0), [], [*UP_TOLD, ("put", "c1", "+", (1,))], (">=", "x", "n")),
                  ("push", "c1")]
        self.assert_translated([("while", ("<", "x", "n"), [UP])], wanted)

    def test_an_if_row_by_row(self):
        wanted = [("put", "w1", "+", ("<", "x", "n")), ("if", ("=", "w1", 1), UP_TOLD, [], ("=", "w1", 1)),
                  ("push", "w1")]
        self.assert_translated([("if", ("<", "x", "n"), [UP], [])], wanted)

    def test_rows_one_behind_the_other(self):
        rows = [UP, ("if", Q, [], [UP]), SET, ("while", Q, [SET]), ("if", Q, [SET], [])]
        wanted = [*UP_TOLD, *if_told(1, Q, [], UP_TOLD), *SET_TOLD, *while_told(1, Q, SET_TOLD),
                  *if_told(1, Q, SET_TOLD, [])]
        self.assert_translated(rows, wanted)

    def test_the_figure_is_that_of_the_level(self):
        rows = [("if", Q, [("while", Q, [("if", Q, [UP], [("while", Q, [])])])], [("if", Q, [], [SET])])]
        third = if_told(3, Q, UP_TOLD, while_told(4, Q, []))
        self.assert_translated(rows, if_told(1, Q, while_told(2, Q, third), if_told(2, Q, [], SET_TOLD)))
        rows = [("while", Q, [("while", Q, [UP]), ("if", Q, [UP], []), ("while", Q, [])]), ("while", Q, [])]
        inner = [*while_told(2, Q, UP_TOLD), *if_told(2, Q, UP_TOLD, []), *while_told(2, Q, [])]
        self.assert_translated(rows, [*while_told(1, Q, inner), *while_told(1, Q, [])])

    def test_rows_7_deep_are_told_as_a_good_program(self):
        plain = [UP, ("while", Q, []), ("if", Q, [], [])]
        told = [*UP_TOLD, *while_told(7, Q, []), *if_told(7, Q, [], [])]
        for level in range(6, 0, -1):
            if level % 2:
                plain, told = [("while", Q, plain)], while_told(level, Q, told)
            else:
                plain, told = [("if", Q, plain, plain)], if_told(level, Q, told, told)
        self.assert_translated(plain, told)

    def test_one_list_that_stands_in_several_places_is_told_as_several(self):
        rows = [UP]
        told = translated([("if", Q, rows, rows), ("while", Q, rows)])
        lists = [told[0][1], *told[0][1][1][2:4], *told[0][1][3][2:4]]
        self.assertEqual(len({id(part) for part in lists}), 5)

    def test_nothing_is_kept_between_two_calls(self):
        rows = [UP]
        self.assertEqual(translated(rows), [("main", UP_TOLD)])
        rows.append(SET)
        self.assertEqual(translated(rows), [("main", [*UP_TOLD, *SET_TOLD])])
        self.assertEqual(told_once(rows, "y")[1], ("work", [*UP_TOLD, *SET_TOLD]))
        self.assertEqual(translated([]), [("main", [])])


class ToldOnceTest(ToldTest):
    def test_the_box_that_is_told(self):
        for name in ("x", "y", "abcdef"):
            wanted = [("main", [("call", "work"), ("put", "out0", "+", (name,)), ("undo", "work")]),
                      ("work", UP_TOLD)]
            self.assert_exactly(self.told_by(told_once, [UP], name), wanted)


FACTORIAL = [("set", "f", (1,)), ("while", ("!=", "n", 0), [("set", "f", ("*", "f", "n")),
                                                           ("set", "n", ("-", "n", 1))])]
COLLATZ = [
    ("while", ("!=", "n", 1), [
        ("set", "h", (0,)),
        ("set", "r", ("n",)),
        ("while", (">=", "r", 2), [("set", "r", ("-", "r", 2)), ("set", "h", ("+", "h", 1))]),
        ("if", ("=", "r", 0), [("set", "n", ("h",))], [("set", "n", ("*", "n", 3)), ("set", "n", ("+", "n", 1))]),
        ("set", "k", ("+", "k", 1)),
    ]),
]
CHANGED = [("if", ("=", "n", 0), [("set", "n", (1,))], [("set", "n", (0,))]), ("set", "n", ("+", "n", "n"))]


class SameBoxesTest(ToldTest):
    """The told program is done where the plain run is, with the same boxes, and the pile beneath."""

    def assert_same(self, rows, boxes, pile, name):
        with self.subTest(rows=rows, boxes=boxes):
            word, told_boxes, _ = plain_run(rows, boxes, ENOUGH)
            self.assertEqual(word, "done")
            begun = {box: boxes[box] for box in boxes if boxes[box]}
            told = run(translated(rows), boxes, pile, ENOUGH)
            self.assert_exactly(told[:2], ("done", told_boxes))
            self.assert_exactly(told[2][:len(pile)], pile)
            back = run_back(translated(rows), told[1], told[2], ENOUGH)
            self.assert_exactly(back, ("done", begun, pile, told[3], None))
            once = run(told_once(rows, name), boxes, pile, ENOUGH)
            out = {"out0": told_boxes[name]} if name in told_boxes else {}
            self.assert_exactly((once[0], once[1], once[2], once[4]), ("done", {**begun, **out}, pile, None))
            self.assertEqual(once[3], 2 * told[3] + 3)

    def test_the_factorial(self):
        self.assertEqual(run(told_once(FACTORIAL, "f"), {"n": 5}, [8], ENOUGH)[:3],
                         ("done", {"n": 5, "out0": 120}, [8]))
        for n in range(12):
            self.assert_same(FACTORIAL, {"n": n, "f": 3}, [1, 0], "f")

    def test_how_often_a_number_is_halved_or_made_greater(self):
        self.assertEqual(run(told_once(COLLATZ, "k"), {"n": 6}, [], ENOUGH)[:3], ("done", {"n": 6, "out0": 8}, []))
        for n in range(1, 10):
            self.assert_same(COLLATZ, {"n": n}, [], "k")

    def test_an_if_that_changes_its_own_answer(self):
        for n in range(3):
            self.assert_same(CHANGED, {"n": n}, [4], "n")

    def test_what_it_pushes_upon_the_pile(self):
        self.assertEqual(run(translated([UP, SET]), {"x": 6, "y": 2}, [9], 6), ("done", {"x": 7, "y": 3}, [9, 6, 2], 6,
                                                                               None))
        row = ("if", ("=", "x", 0), [UP], [SET])
        self.assertEqual(run(translated([row]), {}, [], 9), ("done", {"x": 1}, [0, 1], 7, None))
        self.assertEqual(run(translated([row]), {"x": 1}, [], 9), ("done", {"x": 1, "y": 3}, [0, 0], 7, None))
        row = ("while", ("<", "x", 2), [UP])
        self.assertEqual(run(translated([row]), {}, [], ENOUGH), ("done", {"x": 2}, [0, 1, 2], 15, None))

    def test_what_is_in_out0_ahead_of_it_counts(self):
        told = run(told_once([SET], "y"), {"out0": 999999, "y": 1}, [], ENOUGH)
        self.assertEqual(told[:3], ("done", {"out0": 2, "y": 1}, []))
        self.assertEqual(run(told_once([SET], "x"), {"out0": 5}, [], ENOUGH)[1], {"out0": 5})

    def test_samples(self):
        words = set()
        for seed in range(400):
            samples = Samples(seed)
            rows = samples.plain_rows(4)
            boxes, pile = samples.begun("abcdij")
            self.assert_same(rows, boxes, pile, samples.chance.choice("abcd"))
            words.update(str(rows).split("'"))
        self.assertLessEqual({"set", "if", "while"}, words)


if __name__ == "__main__":
    unittest.main()
