"""alike: the same patches, the same row."""

import unittest

from tests.line import Line


class Alike(unittest.TestCase):
    def setUp(self):
        self.line = Line(1, 0, 5, 1, 2, 3, 4, 5)

    def holds(self, expected):
        before = self.line.everything()
        self.assertEqual(self.line.alike(0, 1), expected)
        self.assertEqual(self.line.alike(1, 0), expected)
        self.assertEqual(self.line.everything(), before)

    def test_empty_stores(self):
        self.holds([1, 1])

    def test_the_same_patches_that_came_in_another_order(self):
        self.line.record(0, 9, [], 0, 0, 0, 1, 1, 2, 8, 9)
        self.line.record(1, 2, [], 0, 0, 4, 1, 5, 1, 6)
        self.line.pull(0, 1)
        self.line.pull(1, 0)
        self.holds([1, 1])

    def test_the_same_patches_in_conflict(self):
        self.line.record(0, 9, [], 0, 0, 0, 1, 1, 0)
        self.line.record(1, 2, [], 0, 0, 0, 1, 1, 1, 6)
        self.line.pull(0, 1)
        self.line.pull(1, 0)
        self.holds([1, 1])

    def test_unlike_rows(self):
        self.line.record(0, 9, [], 0, 0, 0, 1, 1, 0)
        self.holds([0, 0])

    def test_unlike_rows_of_as_many_patches(self):
        self.line.record(0, 9, [], 0, 0, 0, 1, 1, 0)
        self.line.record(1, 2, [], 0, 0, 4, 1, 5, 0)
        self.holds([0, 0])

    def test_the_same_step_under_unlike_names_is_no_same_row(self):
        self.line.record(0, 9, [], 0, 0, 0, 1, 1, 0)
        self.line.record(1, 2, [], 0, 0, 0, 1, 1, 0)
        self.assertEqual(self.line.outcome(0), self.line.outcome(1))
        self.holds([0, 0])

    def test_the_same_outcome_is_no_same_row(self):
        self.line.record(0, 9, [], 1, 0, 1, 2)
        self.line.record(0, 8, [], 1, 0, 1, 2)
        self.assertEqual(self.line.outcome(0), self.line.outcome(1))
        self.holds([0, 0])

    def test_the_same_row_with_unlike_patches_one_ended(self):
        self.line.record(0, 9, [], 0, 0, 0, 1, 1, 0)
        self.line.record(0, 3, [9], 2, 3)
        self.line.bring(1, 0, 3)
        self.assertEqual(self.line.known(1), [1, 3])
        self.holds([0, 1])

    def test_the_same_row_with_unlike_patches_two_in_conflict(self):
        self.line.record(0, 9, [], 0, 0, 0, 1, 1, 0)
        self.line.record(1, 2, [], 0, 0, 0, 1, 1, 1, 6)
        self.line.pull(0, 1)
        self.line.forget(1, 2)
        self.assertEqual(self.line.known(0), [2, 2, 9])
        self.holds([0, 1])

    def test_the_same_empty_row_with_unlike_patches_in_both(self):
        self.line.record(0, 9, [], 2, 3)
        self.line.record(1, 2, [], 2, 3)
        self.line.record(2, 5, [], 2, 3)
        self.line.pull(0, 1)
        self.line.pull(1, 2)
        self.assertEqual([self.line.known(0), self.line.known(1)], [[2, 2, 9], [2, 2, 5]])
        self.holds([0, 1])

    def test_the_same_acting_patches_and_one_more_that_acts(self):
        self.line.record(0, 9, [], 2, 3)
        self.line.pull(1, 0)
        self.line.record(1, 2, [], 2, 4)
        self.holds([0, 0])

    def test_a_store_with_itself(self):
        self.line.record(0, 9, [], 2, 3)
        self.line.record(1, 2, [], 2, 3)
        self.line.pull(0, 1)
        for store in range(3):
            self.assertEqual(self.line.alike(store, store), [1, 1])

    def test_after_forgetting_and_going_back(self):
        self.line.record(0, 9, [], 2, 3)
        self.line.tag(0, 0)
        self.line.pull(1, 0)
        self.line.forget(1, 9)
        self.holds([0, 0])
        self.line.back(1, 0)
        self.holds([1, 1])

    def test_the_answers_are_whole_numbers(self):
        self.assertEqual([number.__class__ for number in self.line.alike(0, 1)], [int, int])


if __name__ == "__main__":
    unittest.main()
