"""The one form of a row, what a patch needs, and rows joined."""

import unittest

from patchstores.rows import brought_to_front, joined, merged, one_form, picked_last
from patchstores.steps import read_step


def row(*patches):
    return [(name, read_step(step)) for name, *step in patches]


class OneForm(unittest.TestCase):
    def test_an_empty_row(self):
        self.assertEqual(one_form([]), [])

    def test_patches_that_all_pass_one_another_stand_by_rising_names(self):
        found = one_form(row((9, 2, 1), (4, 2, 2), (7, 2, 3), (0, 2, 4)))
        self.assertEqual(found, row((0, 2, 4), (4, 2, 2), (7, 2, 3), (9, 2, 1)))

    def test_a_needed_one_stays_ahead_of_a_lesser_name(self):
        found = one_form(row((9, 2, 1), (5, 2, 2), (1, 4, 1, 3)))
        self.assertEqual(found, row((5, 2, 2), (9, 2, 1), (1, 4, 1, 3)))

    def test_the_least_that_can_come_first_not_the_least_there_is(self):
        found = one_form(row((8, 2, 1), (9, 2, 2), (0, 3, 2), (3, 3, 1)))
        self.assertEqual(found, row((8, 2, 1), (3, 3, 1), (9, 2, 2), (0, 3, 2)))

    def test_steps_are_as_they_are_at_their_new_places(self):
        found = one_form(row((7, 0, 0, 0, 0, 2, 8, 9), (3, 0, 0, 4, 1, 5, 0), (1, 1, 0, 8, 5)))
        self.assertEqual(found, row((1, 1, 0, 8, 5), (3, 0, 0, 2, 1, 8, 0), (7, 0, 0, 0, 0, 2, 5, 9)))


class Picked(unittest.TestCase):
    def test_alone(self):
        self.assertEqual(picked_last(row((5, 2, 1))), row((5, 2, 1)))

    def test_one_that_is_passed_changes_what_is_left(self):
        found = picked_last(row((1, 4, 0, 3), (2, 0, 3, 0, 1, 5, 1, 6), (4, 1, 3, 6, 7), (3, 0, 3, 0, 1, 7, 0)))
        self.assertEqual(found, row((2, 0, 0, 0, 1, 5, 1, 6), (3, 0, 0, 0, 1, 6, 0)))

    def test_one_that_only_a_needed_one_needs(self):
        found = picked_last(row((1, 2, 1), (5, 2, 5), (2, 4, 1, 2), (3, 4, 2, 3)))
        self.assertEqual(found, row((1, 2, 1), (2, 4, 1, 2), (3, 4, 2, 3)))

    def test_what_passes_the_last_but_not_a_needed_one_is_needed(self):
        # Both other names of 1 and 3 are unlike; 2 stands between them.
        found = picked_last(row((1, 4, 0, 1), (2, 4, 2, 0), (3, 2, 2)))
        self.assertEqual(found, row((1, 4, 0, 1), (2, 4, 2, 0), (3, 2, 2)))


class BroughtToFront(unittest.TestCase):
    def test_in_the_order_that_is_asked(self):
        found = brought_to_front(row((1, 2, 1), (2, 2, 2), (3, 2, 3)), [3, 2])
        self.assertEqual(found, row((3, 2, 3), (2, 2, 2), (1, 2, 1)))

    def test_not_past_one_that_is_needed(self):
        self.assertIsNone(brought_to_front(row((1, 2, 1), (2, 3, 1)), [2]))


class Joined(unittest.TestCase):
    def test_with_an_empty_row(self):
        some = row((1, 2, 1), (2, 3, 1))
        self.assertEqual(joined([], some), some)
        self.assertEqual(joined(some, []), some)
        self.assertEqual(joined([], []), [])

    def test_with_itself(self):
        some = row((1, 2, 1), (2, 3, 1))
        self.assertEqual(joined(some, some), some)

    def test_the_second_rest_stands_behind_the_first_one_as_it_is_then(self):
        found = joined(row((1, 0, 0, 0, 0, 2, 8, 9)), row((2, 0, 0, 3, 1, 4, 0)))
        self.assertEqual(found, row((1, 0, 0, 0, 0, 2, 8, 9), (2, 0, 0, 5, 1, 4, 0)))
        found = joined(row((2, 0, 0, 3, 1, 4, 0)), row((1, 0, 0, 0, 0, 2, 8, 9)))
        self.assertEqual(found, row((2, 0, 0, 3, 1, 4, 0), (1, 0, 0, 0, 0, 2, 8, 9)))

    def test_a_move_and_a_hunk(self):
        found = joined(row((1, 4, 0, 5)), row((2, 0, 0, 0, 1, 4, 0)))
        self.assertEqual(found, row((1, 4, 0, 5), (2, 0, 5, 0, 1, 4, 0)))
        found = joined(row((2, 0, 0, 0, 1, 4, 0)), row((1, 4, 0, 5)))
        self.assertEqual(found, row((2, 0, 0, 0, 1, 4, 0), (1, 4, 0, 5)))

    def test_what_both_have_stands_in_front_in_the_first_rows_order(self):
        first = row((9, 2, 9), (4, 2, 4), (1, 2, 1))
        second = row((1, 2, 1), (7, 2, 7), (4, 2, 4))
        self.assertEqual(joined(first, second), row((4, 2, 4), (1, 2, 1), (9, 2, 9), (7, 2, 7)))

    def test_what_both_have_does_not_conflict_with_itself(self):
        common = (1, 0, 0, 0, 0, 1, 5)
        found = joined(row(common, (2, 0, 0, 1, 0, 1, 6)), row(common, (3, 4, 0, 1)))
        self.assertEqual(found, row(common, (2, 0, 0, 1, 0, 1, 6), (3, 4, 0, 1)))

    def test_rows_of_several_are_merged_one_after_the_other(self):
        first = row((1, 4, 0, 1), (2, 2, 0), (3, 0, 0, 0, 0, 1, 7))
        second = row((4, 0, 0, 0, 0, 1, 5), (5, 1, 0, 5, 6))
        self.assertEqual(joined(first, second), first + row((4, 0, 1, 0, 0, 1, 5), (5, 1, 1, 5, 6)))
        self.assertEqual(joined(second, first), second + first)

    def test_a_conflict_deep_in_a_row(self):
        first = row((1, 2, 1), (2, 2, 2), (3, 2, 3))
        self.assertIsNone(joined(first, row((4, 2, 4), (5, 2, 2))))
        self.assertIsNone(merged(first, row((4, 2, 4), (5, 2, 2))))

    def test_what_both_have_can_not_be_brought_to_the_front(self):
        first = row((1, 2, 1), (2, 3, 1))
        second = row((2, 3, 1), (3, 2, 4))
        self.assertIsNone(joined(first, second))
        self.assertIsNone(joined(second, first))

    def test_pairs_that_conflict_both_ways(self):
        hunk = (0, 0, 2, 1, 5, 1, 6)
        for first, second in (
            (hunk, hunk),
            (hunk, (0, 0, 3, 1, 7, 0)),
            (hunk, (0, 0, 1, 1, 7, 0)),
            (hunk, (0, 0, 3, 0, 1, 7)),
            (hunk, (0, 0, 2, 0, 1, 7)),
            ((0, 0, 0, 0, 1, 7), (3, 0)),
            ((1, 0, 5, 6), (1, 0, 6, 5)),
            ((1, 0, 5, 6), (1, 0, 6, 7)),
            ((1, 0, 5, 6), (3, 0)),
            ((2, 1), (2, 1)),
            ((3, 1), (3, 1)),
            ((3, 1), (4, 1, 2)),
            ((4, 0, 1), (4, 0, 1)),
            ((4, 0, 1), (4, 0, 2)),
            ((4, 0, 1), (4, 2, 1)),
            ((4, 0, 1), (2, 1)),
        ):
            with self.subTest(first=first, second=second):
                self.assertIsNone(joined(row((1, *first)), row((2, *second))))
                self.assertIsNone(joined(row((2, *second)), row((1, *first))))

    def test_pairs_that_do_not_conflict(self):
        for first, second in (
            ((0, 0, 2, 1, 5, 1, 6), (0, 0, 4, 1, 7, 0)),
            ((0, 0, 2, 1, 5, 1, 6), (0, 0, 0, 1, 7, 0)),
            ((0, 0, 2, 1, 5, 1, 6), (0, 0, 1, 0, 1, 7)),
            ((0, 0, 2, 1, 5, 1, 6), (0, 1, 2, 1, 5, 1, 6)),
            ((0, 0, 2, 1, 5, 1, 6), (1, 0, 5, 6)),
            ((1, 0, 5, 6), (1, 0, 7, 8)),
            ((1, 0, 5, 6), (1, 1, 5, 6)),
            ((2, 1), (3, 2)),
            ((4, 0, 1), (1, 0, 5, 6)),
        ):
            with self.subTest(first=first, second=second):
                self.assertIsNotNone(joined(row((1, *first)), row((2, *second))))
                self.assertIsNotNone(joined(row((2, *second)), row((1, *first))))


if __name__ == "__main__":
    unittest.main()
