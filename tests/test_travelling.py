"""conflicts, idle, row and outcome in stores that have got their patches by pull and bring."""

import unittest

from tests.line import Line


class InBothDirections(unittest.TestCase):
    def setUp(self):
        # 7 and 4 change the same token; 3 is apart from both.
        self.line = Line(1, 0, 5, 1, 2, 3, 4, 5)
        self.line.record(0, 7, [], 0, 0, 0, 1, 1, 2, 9, 9)
        self.line.record(1, 3, [], 0, 0, 4, 1, 5, 1, 6)
        self.line.record(1, 4, [], 0, 0, 0, 1, 1, 1, 8)

    def in_conflict(self, store):
        self.assertEqual(self.line.state(store), [
            [3, 3, 4, 7],
            [1, 3, 0, 0, 4, 1, 5, 1, 6],
            [1, 0, 5, 1, 2, 3, 4, 6],
            [1, 4, 7],
            [2, 4, 2, 7, 2],
        ])

    def test_by_pull(self):
        self.assertEqual(self.line.pull(0, 1), [2])
        self.in_conflict(0)

    def test_by_pull_the_other_way(self):
        self.assertEqual(self.line.pull(1, 0), [1])
        self.in_conflict(1)

    def test_by_bring(self):
        self.assertEqual(self.line.bring(0, 1, 4), [1])
        self.assertEqual(self.line.conflicts(0), [1, 4, 7])
        self.assertEqual(self.line.row(0), [0])
        self.assertEqual(self.line.bring(0, 1, 3), [1])
        self.in_conflict(0)

    def test_by_bring_the_other_way(self):
        self.assertEqual(self.line.bring(1, 0, 7), [1])
        self.in_conflict(1)

    def test_into_a_third_store(self):
        self.line.pull(2, 0)
        self.line.pull(2, 1)
        self.in_conflict(2)

    def test_the_source_is_as_it_was(self):
        before = self.line.state(1)
        self.line.pull(0, 1)
        self.assertEqual(self.line.state(1), before)
        self.assertEqual(self.line.outcome(1), [1, 0, 5, 8, 2, 3, 4, 6])

    def test_no_conflict_without_the_one(self):
        self.line.bring(0, 1, 3)
        self.assertEqual(self.line.conflicts(0), [0])
        self.assertEqual(self.line.outcome(0), [1, 0, 6, 9, 9, 2, 3, 4, 6])

    def test_after_forgetting_the_one_the_other_acts(self):
        self.line.pull(0, 1)
        self.assertEqual(self.line.forget(0, 7), [1])
        self.assertEqual(self.line.state(0), self.line.state(1))
        self.assertEqual(self.line.pull(1, 0), [0])
        self.assertEqual(self.line.idle(1), [0])

    def test_after_forgetting_the_other_one(self):
        self.line.pull(0, 1)
        self.assertEqual(self.line.forget(0, 4), [1])
        self.assertEqual(self.line.conflicts(0), [0])
        self.assertEqual(self.line.outcome(0), [1, 0, 6, 9, 9, 2, 3, 4, 6])


class ThreeStores(unittest.TestCase):
    def setUp(self):
        # 2 conflicts with 8, 8 with 5; 2 and 5 are apart.
        self.line = Line(1, 0, 5, 1, 2, 3, 4, 5)
        self.line.record(0, 2, [], 0, 0, 0, 1, 1, 1, 7)
        self.line.record(1, 5, [], 0, 0, 4, 1, 5, 0)
        self.line.record(2, 8, [], 0, 0, 0, 5, 1, 2, 3, 4, 5, 1, 9)

    def test_all_the_same_in_every_store(self):
        self.line.pull(0, 1)
        self.assertEqual(self.line.conflicts(0), [0])
        self.assertEqual(self.line.outcome(0), [1, 0, 4, 7, 2, 3, 4])
        self.line.pull(2, 0)
        self.assertEqual(self.line.conflicts(2), [2, 2, 8, 5, 8])
        self.assertEqual(self.line.idle(2), [3, 2, 2, 5, 2, 8, 2])
        self.assertEqual(self.line.row(2), [0])
        self.assertEqual(self.line.outcome(2), [1, 0, 5, 1, 2, 3, 4, 5])
        self.line.pull(1, 2)
        self.line.pull(0, 1)
        self.assertEqual(self.line.state(0), self.line.state(2))
        self.assertEqual(self.line.state(1), self.line.state(2))

    def test_the_one_forgotten_lets_the_others_act(self):
        self.line.pull(1, 0)
        self.line.pull(1, 2)
        self.assertEqual(self.line.forget(1, 8), [1])
        self.assertEqual(self.line.row(1), [2, 2, 0, 0, 0, 1, 1, 1, 7, 5, 0, 0, 4, 1, 5, 0])

    def test_one_of_two_forgotten(self):
        self.line.pull(1, 0)
        self.line.pull(1, 2)
        self.line.forget(1, 2)
        self.assertEqual(self.line.conflicts(1), [1, 5, 8])
        self.assertEqual(self.line.idle(1), [2, 5, 2, 8, 2])

    def test_each_pair_of_three(self):
        line = Line(1, 3, 0)
        for store, name in enumerate((40, 6, 22)):
            self.assertEqual(line.record(store, name, [], 4, 3, store), [0])
        line.pull(0, 2)
        self.assertEqual(line.conflicts(0), [1, 22, 40])
        line.pull(0, 1)
        self.assertEqual(line.conflicts(0), [3, 6, 22, 6, 40, 22, 40])
        line.forget(0, 22)
        self.assertEqual(line.conflicts(0), [1, 6, 40])
        line.forget(0, 40)
        self.assertEqual(line.outcome(0), [1, 1, 0])


class WhatNeedsAConflictingOne(unittest.TestCase):
    def setUp(self):
        # 5 needs 4; 4 and 7 change the same token; 1 needs 7.
        self.line = Line(1, 0, 5, 1, 2, 3, 4, 5)
        self.line.record(1, 4, [], 0, 0, 0, 1, 1, 1, 8)
        self.line.record(1, 5, [], 0, 0, 1, 1, 2, 0)
        self.line.record(0, 7, [], 0, 0, 0, 1, 1, 2, 9, 9)
        self.line.record(0, 1, [], 0, 0, 0, 1, 9, 0)

    def test_it_comes_with_it_by_bring(self):
        self.assertEqual(self.line.bring(0, 1, 5), [2])
        self.assertEqual(self.line.known(0), [4, 1, 4, 5, 7])
        self.assertEqual(self.line.conflicts(0), [4, 1, 4, 1, 5, 4, 7, 5, 7])
        self.assertEqual(self.line.idle(0), [4, 1, 2, 4, 2, 5, 2, 7, 2])
        self.assertEqual(self.line.outcome(0), [1, 0, 5, 1, 2, 3, 4, 5])

    def test_it_comes_later(self):
        self.line.bring(1, 0, 7)
        self.assertEqual(self.line.conflicts(1), [2, 4, 7, 5, 7])
        self.assertEqual(self.line.bring(1, 0, 1), [1])
        self.assertEqual(self.line.conflicts(1), [4, 1, 4, 1, 5, 4, 7, 5, 7])

    def test_to_forget_the_needed_one_ends_all_the_conflicts(self):
        self.line.pull(0, 1)
        self.assertEqual(self.line.forget(0, 4), [2])
        self.assertEqual(self.line.known(0), [2, 1, 7])
        self.assertEqual(self.line.conflicts(0), [0])
        self.assertEqual(self.line.outcome(0), [1, 0, 5, 9, 2, 3, 4, 5])

    def test_to_forget_what_needs_it_leaves_the_conflict(self):
        self.line.pull(0, 1)
        self.assertEqual(self.line.forget(0, 5), [1])
        self.assertEqual(self.line.forget(0, 1), [1])
        self.assertEqual(self.line.conflicts(0), [1, 4, 7])

    def test_it_conflicts_itself_though_what_it_needs_does_not(self):
        line = Line(1, 0, 5, 1, 2, 3, 4, 5)
        line.record(0, 4, [], 0, 0, 0, 1, 1, 1, 8)
        line.record(0, 5, [], 0, 0, 0, 3, 8, 2, 3, 0)
        line.record(1, 7, [], 0, 0, 2, 1, 3, 1, 6)
        line.pull(1, 0)
        self.assertEqual(line.conflicts(1), [1, 5, 7])
        self.assertEqual(line.idle(1), [2, 5, 2, 7, 2])
        self.assertEqual(line.outcome(1), [1, 0, 5, 8, 2, 3, 4, 5])

    def test_two_that_need_the_same_one_conflict_over_it_alone(self):
        line = Line(1, 0, 1, 1)
        line.record(0, 4, [], 0, 0, 0, 1, 1, 3, 7, 8, 9)
        line.pull(1, 0)
        line.record(0, 5, [], 0, 0, 0, 1, 7, 0)
        line.record(1, 6, [], 0, 0, 0, 1, 7, 1, 3)
        line.record(1, 2, [], 0, 0, 2, 1, 9, 0)
        self.assertEqual(line.pull(0, 1), [2])
        self.assertEqual(line.conflicts(0), [1, 5, 6])
        self.assertEqual(line.idle(0), [2, 5, 2, 6, 2])
        self.assertEqual(line.row(0), [2, 4, 0, 0, 0, 1, 1, 3, 7, 8, 9, 2, 0, 0, 2, 1, 9, 0])
        self.assertEqual(line.outcome(0), [1, 0, 2, 7, 8])


class WhatEndsThemTravelsOn(unittest.TestCase):
    def setUp(self):
        # In store 0, 9 ends 4 and 7, that conflict; 5 needs 4 and is in store 1 alone.
        self.line = Line(1, 0, 5, 1, 2, 3, 4, 5)
        self.line.record(0, 7, [], 0, 0, 0, 1, 1, 2, 9, 9)
        self.line.record(1, 4, [], 0, 0, 0, 1, 1, 1, 8)
        self.line.pull(0, 1)
        self.assertEqual(self.line.record(0, 9, [4, 7], 0, 0, 0, 1, 1, 1, 6), [0])
        self.line.record(1, 5, [], 0, 0, 1, 1, 2, 0)

    def test_where_it_was_recorded(self):
        self.assertEqual(self.line.conflicts(0), [0])
        self.assertEqual(self.line.idle(0), [2, 4, 1, 7, 1])
        self.assertEqual(self.line.outcome(0), [1, 0, 5, 6, 2, 3, 4, 5])

    def test_by_pull_to_a_store_that_has_one_of_them(self):
        self.assertEqual(self.line.pull(1, 0), [2])
        self.assertEqual(self.line.conflicts(1), [0])
        self.assertEqual(self.line.idle(1), [3, 4, 1, 5, 1, 7, 1])
        self.assertEqual(self.line.row(1), [1, 9, 0, 0, 0, 1, 1, 1, 6])
        self.assertEqual(self.line.alike(0, 1), [0, 1])

    def test_by_bring_without_those_that_it_ends(self):
        self.assertEqual(self.line.bring(2, 0, 9), [1])
        self.assertEqual(self.line.state(2), [
            [1, 9], [1, 9, 0, 0, 0, 1, 1, 1, 6], [1, 0, 5, 6, 2, 3, 4, 5], [0], [0],
        ])

    def test_those_that_come_behind_it_are_ended_at_once(self):
        self.line.bring(2, 0, 9)
        self.assertEqual(self.line.bring(2, 1, 5), [2])
        self.assertEqual(self.line.idle(2), [2, 4, 1, 5, 1])
        self.assertEqual(self.line.bring(2, 0, 7), [1])
        self.assertEqual(self.line.idle(2), [3, 4, 1, 5, 1, 7, 1])
        self.assertEqual(self.line.outcome(2), [1, 0, 5, 6, 2, 3, 4, 5])

    def test_through_a_second_store_to_a_third_one(self):
        self.line.pull(1, 0)
        self.line.pull(2, 1)
        self.assertEqual(self.line.pull(0, 2), [1])
        for store in (1, 2):
            self.assertEqual(self.line.state(store), self.line.state(0))

    def test_forgotten_the_conflict_is_there_again(self):
        self.line.pull(1, 0)
        self.assertEqual(self.line.forget(1, 9), [1])
        self.assertEqual(self.line.conflicts(1), [2, 4, 7, 5, 7])
        self.assertEqual(self.line.idle(1), [3, 4, 2, 5, 2, 7, 2])
        self.assertEqual(self.line.outcome(1), [1, 0, 5, 1, 2, 3, 4, 5])
        self.assertEqual(self.line.idle(0), [2, 4, 1, 7, 1])

    def test_pulled_again_it_ends_them_again(self):
        self.line.pull(1, 0)
        self.line.forget(1, 9)
        self.assertEqual(self.line.pull(1, 0), [1])
        self.assertEqual(self.line.idle(1), [3, 4, 1, 5, 1, 7, 1])

    def test_one_that_ends_and_conflicts_itself_ends_in_the_other_store_too(self):
        self.line.record(2, 3, [], 0, 0, 0, 2, 1, 2, 0)
        self.assertEqual(self.line.pull(2, 0), [3])
        self.assertEqual(self.line.conflicts(2), [1, 3, 9])
        self.assertEqual(self.line.idle(2), [4, 3, 2, 4, 1, 7, 1, 9, 2])
        self.assertEqual(self.line.outcome(2), [1, 0, 5, 1, 2, 3, 4, 5])
        self.line.record(2, 8, [3, 9], 2, 8)
        self.assertEqual(self.line.idle(2), [4, 3, 1, 4, 1, 7, 1, 9, 1])
        self.assertEqual(self.line.outcome(2), [2, 0, 5, 1, 2, 3, 4, 5, 8, 0])

    def test_two_that_end_the_same_ones_conflict_with_one_another(self):
        self.line.bring(1, 0, 7)
        self.assertEqual(self.line.record(1, 2, [7, 4], 0, 0, 0, 1, 1, 1, 3), [0])
        self.line.pull(0, 1)
        self.assertEqual(self.line.conflicts(0), [1, 2, 9])
        self.assertEqual(self.line.idle(0), [5, 2, 2, 4, 1, 5, 1, 7, 1, 9, 2])
        self.assertEqual(self.line.forget(0, 2), [1])
        self.assertEqual(self.line.idle(0), [3, 4, 1, 5, 1, 7, 1])


class OtherStepsInConflict(unittest.TestCase):
    def test_a_removed_file_and_a_hunk_in_it(self):
        line = Line(1, 6, 0)
        line.record(0, 1, [], 3, 6)
        line.record(1, 2, [], 0, 6, 0, 0, 1, 5)
        line.pull(0, 1)
        line.pull(1, 0)
        for store in (0, 1):
            self.assertEqual(line.state(store), [[2, 1, 2], [0], [1, 6, 0], [1, 1, 2], [2, 1, 2, 2, 2]])

    def test_a_moved_file_and_a_hunk_in_it_join(self):
        line = Line(1, 6, 1, 4)
        line.record(0, 1, [], 4, 6, 2)
        line.record(1, 2, [], 0, 6, 0, 1, 4, 1, 5)
        line.pull(0, 1)
        line.pull(1, 0)
        for store in (0, 1):
            self.assertEqual(line.row(store), [2, 1, 4, 6, 2, 2, 0, 2, 0, 1, 4, 1, 5])
            self.assertEqual(line.outcome(store), [1, 2, 1, 5])

    def test_two_swaps_with_a_common_token(self):
        line = Line(1, 6, 3, 1, 2, 3)
        line.record(0, 1, [], 1, 6, 1, 2)
        line.record(1, 2, [], 1, 6, 2, 3)
        line.record(2, 3, [], 1, 6, 4, 3)
        line.pull(0, 1)
        line.pull(0, 2)
        self.assertEqual(line.conflicts(0), [2, 1, 2, 2, 3])
        line.forget(0, 2)
        self.assertEqual(line.outcome(0), [1, 6, 3, 2, 1, 4])

    def test_added_under_one_name_in_two_stores(self):
        line = Line(0)
        line.record(0, 1, [], 2, 5)
        line.record(0, 3, [], 0, 5, 0, 0, 1, 7)
        line.record(1, 2, [], 2, 5)
        line.record(1, 4, [], 4, 5, 6)
        self.assertEqual(line.block(4), [2, 2, 2, 5, 4, 4, 5, 6, 0])
        line.pull(1, 0)
        self.assertEqual(line.conflicts(1), [4, 1, 2, 1, 4, 2, 3, 3, 4])
        self.assertEqual(line.outcome(1), [0])


if __name__ == "__main__":
    unittest.main()
