"""A run that is done leads back to what it began with, by as many steps; and the other way round."""

import unittest

from runcases import ENOUGH, Samples, ToldTest
from turnedrun.running import run, run_back
from turnedrun.turning import turned


class LeadingBackTest(ToldTest):
    def assert_leads_back(self, there, back, program, begun):
        """Whether the run is done; if so, it leads back."""
        boxes, pile = begun
        word, told_boxes, told_pile, steps, place = there(program, boxes, pile, ENOUGH)
        if word != "done":
            return False
        self.assertIsNone(place)
        wanted = ("done", {name: boxes[name] for name in boxes if boxes[name]}, pile, steps, None)
        self.assert_exactly(back(program, told_boxes, told_pile, ENOUGH), wanted)
        self.assert_exactly(back(program, told_boxes, told_pile, steps), wanted)
        return True

    def test_rows_of_every_kind_lead_back(self):
        words = set()
        for seed in range(400):
            samples = Samples(seed)
            program = samples.leading_program()
            words.update(self.words_of([row for _, rows in program for row in rows]))
            for _ in range(3):
                begun = samples.begun("abcduv")
                with self.subTest(program=program, begun=begun):
                    self.assertTrue(self.assert_leads_back(run, run_back, program, begun))
                    self.assertTrue(self.assert_leads_back(run_back, run, turned(program), begun))
        self.assertEqual(words, {"put", "swap", "push", "pull", "call", "undo", "if", "round"})

    def words_of(self, rows):
        for row in rows:
            yield row[0]
            if row[0] in ("if", "round"):
                yield from self.words_of([*row[2], *row[3]])

    def test_any_rows_that_are_done_lead_back(self):
        forth, behind = 0, 0
        for seed in range(1500):
            samples = Samples(seed)
            program = samples.any_program()
            begun = samples.begun()
            with self.subTest(program=program, begun=begun):
                forth += self.assert_leads_back(run, run_back, program, begun)
                behind += self.assert_leads_back(run_back, run, program, begun)
        self.assertGreater(forth, 300)
        self.assertGreater(behind, 300)

    def test_a_sum_of_numbers_that_leads_back_to_them(self):
        """The sum 1 + 2 + .. + n with what it needs to be known again."""
        row = ("round", ("=", "i", 0), [("put", "i", "+", (1,)), ("put", "s", "+", ("i",))], [], ("=", "i", "n"))
        self.assert_both_ways([("main", [row])], ({"n": 4}, []), ({"i": 4, "n": 4, "s": 10}, []), 16)

    def test_fibonacci_by_a_swap(self):
        body = [("put", "a", "+", ("b",)), ("swap", "a", "b"), ("put", "n", "+", (1,))]
        row = ("round", ("=", "n", 0), [], body, ("=", "n", 10))
        self.assert_both_ways([("main", [row])], ({"b": 1}, [5]), ({"a": 55, "b": 89, "n": 10}, [5]), 52)


if __name__ == "__main__":
    unittest.main()
