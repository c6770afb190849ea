"""What the tests share: sample parts, and how a refusal is looked at."""

import unittest

from turnedrun.rows import checked

Q = ("=", "x", 0)
R = ("<", "x", "y")
ADD = ("put", "x", "+", (1,))
GOOD_ROWS = (ADD, ("swap", "x", "y"), ("push", "x"), ("pull", "x"), ("if", Q, [], [], R), ("round", Q, [], [], R),
             ("call", "main"), ("undo", "main"))
BARRED = ("block", "if", "else", "fi", "from", "loop", "until", "call", "undo", "push", "pull")
NO_NAMES = ("", "X", "1a", "a-b", "abcdefg", *BARRED, None, 0, 1, True, 1.5, b"a", [], ["a"], ("a",), {}, {"a": 1})
NO_LISTS = (None, (), (ADD,), {}, "", "rows", 0, 1, True, b"", ADD)
SUM_SIGNS = ("+", "-", "*", "<", "=", ">=", "!=")
QUESTION_SIGNS = ("<", "=", ">=", "!=")


class Uneasy:
    """A thing that can be neither compared nor hashed nor asked for its truth."""

    __hash__ = None

    def __eq__(self, other):
        raise AssertionError("compared")

    def __bool__(self):
        raise AssertionError("asked for its truth")


def program_of(*rows):
    """A program of the one block main with these rows."""
    return [("main", list(rows))]


def copied(thing):
    """The same lists, tuples and dicts anew; all else as it is."""
    if type(thing) in (list, tuple):
        return type(thing)([copied(part) for part in thing])
    if type(thing) is dict:
        return {key: copied(thing[key]) for key in thing}
    return thing


def same(thing, other):
    """Whether two things are of one kind and alike at every depth, without comparing what is handed in."""
    if type(thing) is not type(other):
        return False
    if type(thing) in (list, tuple):
        return len(thing) == len(other) and all(same(a, b) for a, b in zip(thing, other))
    if type(thing) is dict:
        return same(list(thing.items()), list(other.items()))
    return thing is other


class RowsTest(unittest.TestCase):
    """Ways to ask checked for a number or a refusal; each one looks whether what is handed in stays as it was."""

    def assert_refused(self, program, kind, place):
        kept = copied(program)
        with self.subTest(program=program, kind=kind.__name__):
            with self.assertRaises(kind) as caught:
                checked(program)
            self.assertIs(type(caught.exception), kind)
            self.assertEqual(caught.exception.at, place)
            self.assertTrue(same(program, kept))

    def assert_row_refused(self, row, kind):
        """The row is refused at its own place, wherever it stands."""
        self.assert_refused([("main", [row])], kind, ("main", 0))
        self.assert_refused([("main", [ADD, ADD, row, ADD])], kind, ("main", 2))
        self.assert_refused([("main", [ADD]), ("work", []), ("a1", [ADD, row])], kind, ("a1", 1))
        self.assert_refused(program_of(ADD, ("if", Q, [ADD, row], [ADD], R)), kind, ("main", 1, 0, 1))
        self.assert_refused(program_of(("if", Q, [ADD], [row], R)), kind, ("main", 0, 1, 0))
        self.assert_refused(program_of(("round", Q, [row], [ADD], R)), kind, ("main", 0, 0, 0))
        self.assert_refused(program_of(("round", Q, [ADD], [ADD, ADD, row], R)), kind, ("main", 0, 1, 2))
        deep = ("if", Q, [], [ADD, ("round", Q, [row], [], R)], R)
        self.assert_refused([("main", []), ("b", [ADD, ADD, deep])], kind, ("b", 2, 1, 1, 0, 0))

    def assert_many(self, program, wanted):
        with self.subTest(program=program):
            kept = copied(program)
            told = checked(program)
            self.assertIs(type(told), int)
            self.assertEqual(told, wanted)
            self.assertTrue(same(program, kept))
