"""The helpers that the tests of runs stand on are themselves looked at."""

import unittest

from cases import copied
from runcases import Samples, ToldTest, exactly, held_parts
from turnedrun.rows import checked


class HelpersTest(ToldTest):
    def test_exactly_tells_kinds_apart(self):
        self.assertTrue(exactly(([1], {"a": 0}), ([1], {"a": 0})))
        for thing, other in ((1, True), ([1], (1,)), ({"a": 1}, {"a": True}), ([], None), ([1], [1, 2])):
            self.assertFalse(exactly(thing, other))

    def test_told_by_finds_what_is_handed_in_again(self):
        rows = [1]
        for function in (lambda given: given, lambda given: (given,), lambda given: [{"a": given}]):
            with self.assertRaises(AssertionError):
                self.told_by(function, rows)
        with self.assertRaises(AssertionError):
            self.told_by(lambda given: [rows, rows], [2])
        kept = []
        with self.assertRaises(AssertionError):
            self.told_by(lambda given: kept, [2])
        with self.assertRaises(AssertionError):
            self.told_by(lambda given: given.append(1), [2])
        self.assertEqual(self.told_by(lambda given: list(given), [2]), [2])

    def test_the_samples_are_good_programs(self):
        for seed in range(60):
            checked(Samples(seed).any_program())
            checked(Samples(seed).leading_program())

    def test_the_samples_are_the_same_ones_each_time(self):
        self.assertEqual(Samples(3).any_program(), Samples(3).any_program())
        self.assertEqual(Samples(3).plain_rows(3), Samples(3).plain_rows(3))

    def test_held_parts_are_all_of_them(self):
        thing = ([1, [2]], {"a": ([3],)})
        self.assertEqual(len(held_parts(thing)), 4)
        self.assertFalse({id(part) for part in held_parts(thing)} & {id(part) for part in held_parts(copied(thing))})


if __name__ == "__main__":
    unittest.main()
