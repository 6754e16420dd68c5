"""known, row, outcome, conflicts, idle and block in stores of every state."""

import unittest

from tests.line import Line


class EmptyStores(unittest.TestCase):
    def test_all_is_empty_and_the_outcome_is_the_first_tree(self):
        line = Line(1, 3, 2, 7, 8)
        for store in range(3):
            self.assertEqual(line.known(store), [0])
            self.assertEqual(line.row(store), [0])
            self.assertEqual(line.outcome(store), [1, 3, 2, 7, 8])
            self.assertEqual(line.conflicts(store), [0])
            self.assertEqual(line.idle(store), [0])


class AllAct(unittest.TestCase):
    def test_names_rise_and_the_row_is_in_one_form(self):
        line = Line(1, 0, 5, 1, 2, 3, 4, 5)
        line.record(0, 9, [], 0, 0, 0, 1, 1, 2, 8, 9)
        line.record(0, 2, [], 0, 0, 5, 1, 5, 1, 6)
        line.record(0, 5, [], 4, 0, 1)
        self.assertEqual(line.known(0), [3, 2, 5, 9])
        self.assertEqual(line.row(0), [3, 2, 0, 0, 4, 1, 5, 1, 6, 5, 4, 0, 1, 9, 0, 1, 0, 1, 1, 2, 8, 9])
        self.assertEqual(line.outcome(0), [1, 1, 6, 8, 9, 2, 3, 4, 6])
        self.assertEqual(line.conflicts(0), [0])
        self.assertEqual(line.idle(0), [0])

    def test_the_same_patches_hold_the_same_however_they_came(self):
        line = Line(1, 0, 5, 1, 2, 3, 4, 5)
        line.record(0, 9, [], 0, 0, 0, 1, 1, 2, 8, 9)
        line.record(1, 2, [], 0, 0, 4, 1, 5, 1, 6)
        line.pull(0, 1)
        line.pull(1, 0)
        self.assertEqual(line.row(0), [2, 2, 0, 0, 4, 1, 5, 1, 6, 9, 0, 0, 0, 1, 1, 2, 8, 9])
        self.assertEqual(line.state(0), line.state(1))

    def test_a_file_that_has_gone_and_one_that_has_come(self):
        line = Line(1, 5, 0)
        line.record(0, 1, [], 3, 5)
        self.assertEqual(line.outcome(0), [0])
        line.record(0, 2, [], 2, 0)
        self.assertEqual(line.outcome(0), [1, 0, 0])
        self.assertEqual(line.row(0), [2, 1, 3, 5, 2, 2, 0])


class InConflict(unittest.TestCase):
    def setUp(self):
        # 4 and 7 change the same token; 5 needs 4; 3 is apart from all of them.
        self.line = Line(1, 0, 5, 1, 2, 3, 4, 5)
        self.line.record(0, 7, [], 0, 0, 0, 1, 1, 2, 9, 9)
        self.line.record(1, 3, [], 0, 0, 4, 1, 5, 1, 6)
        self.line.record(1, 4, [], 0, 0, 0, 1, 1, 1, 8)
        self.line.record(1, 5, [], 0, 0, 1, 1, 2, 0)
        self.line.pull(0, 1)

    def test_conflicts_and_what_does_not_act(self):
        self.assertEqual(self.line.known(0), [4, 3, 4, 5, 7])
        self.assertEqual(self.line.conflicts(0), [2, 4, 7, 5, 7])
        self.assertEqual(self.line.idle(0), [3, 4, 2, 5, 2, 7, 2])
        self.assertEqual(self.line.row(0), [1, 3, 0, 0, 4, 1, 5, 1, 6])
        self.assertEqual(self.line.outcome(0), [1, 0, 5, 1, 2, 3, 4, 6])

    def test_the_other_store_has_no_conflict(self):
        self.assertEqual(self.line.conflicts(1), [0])
        self.assertEqual(self.line.idle(1), [0])
        self.assertEqual(self.line.outcome(1), [1, 0, 4, 8, 3, 4, 6])

    def test_the_same_from_both_sides(self):
        self.line.pull(1, 0)
        self.line.pull(2, 1)
        self.assertEqual(self.line.state(0), self.line.state(1))
        self.assertEqual(self.line.state(0), self.line.state(2))

    def test_blocks_are_as_they_were(self):
        self.assertEqual(self.line.block(7), [1, 7, 0, 0, 0, 1, 1, 2, 9, 9, 0])
        self.assertEqual(self.line.block(5), [2, 4, 0, 0, 0, 1, 1, 1, 8, 5, 0, 0, 1, 1, 2, 0, 0])

    def test_what_is_recorded_then_needs_none_that_does_not_act(self):
        self.assertEqual(self.line.record(0, 8, [], 0, 0, 0, 1, 8, 0), [-4])
        self.assertEqual(self.line.record(0, 8, [], 0, 0, 2, 1, 3, 1, 0), [0])
        self.assertEqual(self.line.block(8), [1, 8, 0, 0, 2, 1, 3, 1, 0, 0])
        # 5 has taken the token just ahead of it.
        self.assertEqual(self.line.conflicts(0), [3, 4, 7, 5, 7, 5, 8])
        self.assertEqual(self.line.idle(0), [4, 4, 2, 5, 2, 7, 2, 8, 2])

    def test_a_patch_ends_them(self):
        self.assertEqual(self.line.record(0, 9, [7, 4], 0, 0, 0, 1, 1, 2, 8, 9), [0])
        self.assertEqual(self.line.conflicts(0), [0])
        self.assertEqual(self.line.idle(0), [3, 4, 1, 5, 1, 7, 1])
        self.assertEqual(self.line.row(0), [2, 3, 0, 0, 4, 1, 5, 1, 6, 9, 0, 0, 0, 1, 1, 2, 8, 9])
        self.assertEqual(self.line.outcome(0), [1, 0, 6, 8, 9, 2, 3, 4, 6])
        self.assertEqual(self.line.block(9), [1, 9, 0, 0, 0, 1, 1, 2, 8, 9, 2, 7, 4])

    def test_one_of_them_ended_lets_the_others_act(self):
        self.assertEqual(self.line.record(0, 9, [7], 2, 9), [0])
        self.assertEqual(self.line.conflicts(0), [0])
        self.assertEqual(self.line.idle(0), [1, 7, 1])
        self.assertEqual(self.line.outcome(0), [2, 0, 4, 8, 3, 4, 6, 9, 0])

    def test_one_that_conflicts_ends_all_the_same(self):
        # 6 itself conflicts with 4 and 9, so it doesn't act; but 5 is ended.
        self.assertEqual(self.line.record(2, 9, [], 0, 0, 0, 1, 1, 0), [0])
        self.line.pull(2, 1)
        self.assertEqual(self.line.conflicts(2), [2, 4, 9, 5, 9])
        self.assertEqual(self.line.record(2, 6, [5], 0, 0, 0, 0, 1, 77), [0])
        self.assertEqual(self.line.conflicts(2), [3, 4, 6, 4, 9, 6, 9])
        self.assertEqual(self.line.idle(2), [4, 4, 2, 5, 1, 6, 2, 9, 2])


class ManyPairs(unittest.TestCase):
    def test_pairs_rise_by_the_first_name_then_by_the_second(self):
        line = Line(0)
        for store, name in enumerate((8, 2, 5)):
            self.assertEqual(line.record(store, name, [], 2, 4), [0])
        line.pull(0, 1)
        line.pull(0, 2)
        self.assertEqual(line.conflicts(0), [3, 2, 5, 2, 8, 5, 8])
        self.assertEqual(line.idle(0), [3, 2, 2, 5, 2, 8, 2])
        self.assertEqual(line.row(0), [0])
        self.assertEqual(line.outcome(0), [0])


class Ended(unittest.TestCase):
    def setUp(self):
        self.line = Line(2, 0, 2, 1, 2, 1, 0)
        self.line.record(0, 6, [], 0, 0, 0, 1, 1, 1, 5)
        self.line.record(0, 2, [], 0, 0, 0, 1, 5, 1, 7)
        self.line.record(0, 4, [], 0, 1, 0, 0, 1, 9)
        self.line.record(0, 8, [6], 2, 3)

    def test_neither_it_nor_what_needs_it_is_live(self):
        self.assertEqual(self.line.known(0), [4, 2, 4, 6, 8])
        self.assertEqual(self.line.idle(0), [2, 2, 1, 6, 1])
        self.assertEqual(self.line.conflicts(0), [0])
        self.assertEqual(self.line.row(0), [2, 4, 0, 1, 0, 0, 1, 9, 8, 2, 3])
        self.assertEqual(self.line.outcome(0), [3, 0, 2, 1, 2, 1, 1, 9, 3, 0])

    def test_blocks_still_tell_all(self):
        self.assertEqual(self.line.block(2), [2, 6, 0, 0, 0, 1, 1, 1, 5, 2, 0, 0, 0, 1, 5, 1, 7, 0])
        self.assertEqual(self.line.block(8), [1, 8, 2, 3, 1, 6])

    def test_one_that_is_ended_itself_still_ends(self):
        self.assertEqual(self.line.record(0, 9, [8], 2, 5), [0])
        self.assertEqual(self.line.idle(0), [3, 2, 1, 6, 1, 8, 1])
        self.assertEqual(self.line.outcome(0), [3, 0, 2, 1, 2, 1, 1, 9, 5, 0])

    def test_one_that_needs_an_ended_one_still_ends(self):
        line = Line(0)
        line.record(0, 1, [], 2, 1)
        line.record(0, 2, [], 2, 2)
        line.record(0, 3, [2], 0, 1, 0, 0, 1, 5)
        line.record(0, 4, [1], 2, 4)
        self.assertEqual(line.idle(0), [3, 1, 1, 2, 1, 3, 1])
        self.assertEqual(line.row(0), [1, 4, 2, 4])

    def test_an_ended_one_conflicts_with_none(self):
        self.line.record(1, 3, [], 0, 0, 0, 1, 1, 0)
        self.line.pull(0, 1)
        self.assertEqual(self.line.conflicts(0), [0])
        self.assertEqual(self.line.idle(0), [2, 2, 1, 6, 1])
        self.assertEqual(self.line.outcome(0), [3, 0, 1, 2, 1, 1, 9, 3, 0])

    def test_it_is_ended_in_that_store_alone(self):
        self.line.record(1, 3, [], 2, 7)
        self.assertEqual(self.line.bring(1, 0, 2), [2])
        self.assertEqual(self.line.idle(1), [0])
        self.assertEqual(self.line.outcome(1), [3, 0, 2, 7, 2, 1, 0, 7, 0])

    def test_one_may_end_what_the_store_it_comes_to_has_not(self):
        self.assertEqual(self.line.bring(1, 0, 8), [1])
        self.assertEqual(self.line.known(1), [1, 8])
        self.assertEqual(self.line.idle(1), [0])
        self.assertEqual(self.line.outcome(1), [3, 0, 2, 1, 2, 1, 0, 3, 0])


if __name__ == "__main__":
    unittest.main()
