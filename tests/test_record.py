"""Point 3: what record refuses, in which order, and what it records."""

import unittest

from tests.line import Line

BIG = 10 ** 18

NOT_STEPS = {
    "nothing": [],
    "no such kind": [5, 0],
    "a kind below 0": [-1, 0],
    "a great kind": [BIG, 0],
    "a hunk's kind alone": [0],
    "a hunk with no place": [0, 0],
    "a hunk with no counts": [0, 0, 0],
    "a hunk with one count": [0, 0, 0, 1, 1],
    "a hunk with a new token missing": [0, 0, 0, 0, 2, 1],
    "a hunk with an old token missing": [0, 0, 0, 2, 1],
    "a hunk and a number": [0, 0, 0, 1, 1, 1, 2, 0],
    "a hunk with neither": [0, 0, 0, 0, 0],
    "a hunk's file below 0": [0, -1, 0, 0, 1, 1],
    "a hunk's file above 9": [0, 10, 0, 0, 1, 1],
    "a place below 0": [0, 0, -1, 0, 1, 1],
    "a place above 1000": [0, 0, 1001, 0, 1, 1],
    "nine old tokens": [0, 0, 0, 9] + [1] * 9 + [0],
    "nine new tokens": [0, 0, 0, 0, 9] + [1] * 9,
    "an old count below 0": [0, 0, 0, -1, 1, 1],
    "a new count below 0": [0, 0, 0, 1, 1, -1],
    "a great old count": [0, 0, 0, BIG, 1, 1],
    "a great new count": [0, 0, 0, 1, 1, BIG],
    "an old token below 0": [0, 0, 0, 1, -1, 0],
    "an old token above 99": [0, 0, 0, 1, 100, 0],
    "a new token below 0": [0, 0, 0, 0, 1, -1],
    "a new token above 99": [0, 0, 0, 0, 1, 100],
    "a swap with one token": [1, 0, 1],
    "a swap and a number": [1, 0, 1, 2, 3],
    "a swap of like tokens": [1, 0, 1, 1],
    "a swap's file below 0": [1, -1, 1, 2],
    "a swap's file above 9": [1, 10, 1, 2],
    "a swap's first token below 0": [1, 0, -1, 2],
    "a swap's first token above 99": [1, 0, 100, 2],
    "a swap's second token below 0": [1, 0, 1, -2],
    "a swap's second token above 99": [1, 0, 1, 100],
    "added with no file": [2],
    "added and a number": [2, 1, 0],
    "added below 0": [2, -1],
    "added above 9": [2, 10],
    "removed with no file": [3],
    "removed and a number": [3, 0, 0],
    "removed below 0": [3, -1],
    "removed above 9": [3, 10],
    "moved with one name": [4, 0],
    "moved and a number": [4, 0, 1, 2],
    "moved to itself": [4, 0, 0],
    "moved from below 0": [4, -1, 0],
    "moved from above 9": [4, 10, 0],
    "moved to below 0": [4, 0, -1],
    "moved to above 9": [4, 0, 10],
    "thirty great numbers": [BIG] * 30,
}

# Over the tree 2 0 3 1 2 1 4 0: file 0 has 1 2 1, file 4 is empty.
TREE = (2, 0, 3, 1, 2, 1, 4, 0)

NOT_FITTING = {
    "a hunk in no file": [0, 1, 0, 0, 1, 5],
    "a hunk beyond the end": [0, 0, 4, 0, 1, 5],
    "a hunk beyond an empty file's end": [0, 4, 1, 0, 1, 5],
    "a hunk at the greatest place": [0, 0, 1000, 0, 1, 5],
    "a hunk with other old tokens": [0, 0, 0, 1, 2, 1, 5],
    "a hunk whose old tokens go beyond the end": [0, 0, 2, 2, 1, 1, 0],
    "a hunk with old tokens at the end": [0, 0, 3, 1, 1, 0],
    "a swap in no file": [1, 1, 1, 2],
    "added where a file is": [2, 0],
    "added where an empty file is": [2, 4],
    "removed where no file is": [3, 1],
    "removed with tokens": [3, 0],
    "moved where no file is": [4, 1, 2],
    "moved to where a file is": [4, 0, 4],
    "moved from none to a file": [4, 1, 0],
}

FITTING = {
    "a hunk at the front": ([0, 0, 0, 1, 1, 2, 8, 9], [2, 0, 4, 8, 9, 2, 1, 4, 0]),
    "a hunk at the end": ([0, 0, 3, 0, 1, 7], [2, 0, 4, 1, 2, 1, 7, 4, 0]),
    "a hunk with no new tokens": ([0, 0, 1, 1, 2, 0], [2, 0, 2, 1, 1, 4, 0]),
    "a hunk with no old tokens": ([0, 0, 1, 0, 1, 2], [2, 0, 4, 1, 2, 2, 1, 4, 0]),
    "a hunk over the whole file": ([0, 0, 0, 3, 1, 2, 1, 0], [2, 0, 0, 4, 0]),
    "a hunk in an empty file": ([0, 4, 0, 0, 2, 0, 99], [2, 0, 3, 1, 2, 1, 4, 2, 0, 99]),
    "a hunk that changes nothing": ([0, 0, 0, 1, 1, 1, 1], [2, 0, 3, 1, 2, 1, 4, 0]),
    "a hunk with eight new tokens": ([0, 4, 0, 0, 8] + [3] * 8, [2, 0, 3, 1, 2, 1, 4, 8] + [3] * 8),
    "a swap": ([1, 0, 1, 2], [2, 0, 3, 2, 1, 2, 4, 0]),
    "a swap, one of them not there": ([1, 0, 99, 1], [2, 0, 3, 99, 2, 99, 4, 0]),
    "a swap, none of them there": ([1, 0, 8, 9], [2, 0, 3, 1, 2, 1, 4, 0]),
    "a swap in an empty file": ([1, 4, 0, 1], [2, 0, 3, 1, 2, 1, 4, 0]),
    "added": ([2, 9], [3, 0, 3, 1, 2, 1, 4, 0, 9, 0]),
    "added between": ([2, 2], [3, 0, 3, 1, 2, 1, 2, 0, 4, 0]),
    "removed": ([3, 4], [1, 0, 3, 1, 2, 1]),
    "moved": ([4, 0, 9], [2, 4, 0, 9, 3, 1, 2, 1]),
    "an empty one moved": ([4, 4, 1], [2, 0, 3, 1, 2, 1, 1, 0]),
}


class RefusedName(unittest.TestCase):
    def test_out_of_range(self):
        line = Line(*TREE)
        for name in (-1, 100, BIG, -BIG):
            self.assertEqual(line.record(0, name, [], 2, 1), [-3])
        self.assertEqual(line.everything(), Line(*TREE).everything())

    def test_the_range_has_both_its_ends(self):
        line = Line(*TREE)
        self.assertEqual(line.record(0, 0, [], 2, 1), [0])
        self.assertEqual(line.record(0, 99, [], 2, 2), [0])
        self.assertEqual(line.known(0), [2, 0, 99])

    def test_recorded_in_any_store(self):
        line = Line(*TREE)
        line.record(0, 5, [], 2, 1)
        before = line.everything()
        for store in range(3):
            self.assertEqual(line.record(store, 5, [], 2, 2), [-3])
        self.assertEqual(line.everything(), before)

    def test_ahead_of_a_list_that_is_no_step(self):
        line = Line(*TREE)
        self.assertEqual(line.record(0, 100, [7, 7]), [-3])


class RefusedStep(unittest.TestCase):
    def test_lists_that_are_not_whole_a_step(self):
        line = Line(*TREE)
        before = line.everything()
        for what, step in NOT_STEPS.items():
            with self.subTest(what):
                self.assertEqual(line.record(0, 1, [], *step), [-1])
        self.assertEqual(line.everything(), before)

    def test_ahead_of_the_ends(self):
        line = Line(*TREE)
        self.assertEqual(line.record(0, 1, [7, 7], 4, 0, 0), [-1])

    def test_steps_that_do_not_fit(self):
        line = Line(*TREE)
        before = line.everything()
        for what, step in NOT_FITTING.items():
            with self.subTest(what):
                self.assertEqual(line.record(0, 1, [], *step), [-4])
        self.assertEqual(line.everything(), before)

    def test_eight_old_tokens_are_a_step(self):
        line = Line(1, 0, 9, 1, 2, 3, 4, 5, 6, 7, 8, 9)
        self.assertEqual(line.record(0, 1, [], 0, 0, 1, 8, 2, 3, 4, 5, 6, 7, 8, 9, 0), [0])
        self.assertEqual(line.outcome(0), [1, 0, 1, 1])

    def test_fitting_is_asked_of_the_stores_own_outcome(self):
        line = Line(*TREE)
        self.assertEqual(line.record(0, 1, [], 2, 1), [0])
        self.assertEqual(line.record(0, 2, [], 2, 1), [-4])
        self.assertEqual(line.record(1, 2, [], 2, 1), [0])
        self.assertEqual(line.record(1, 3, [], 3, 4), [0])
        self.assertEqual(line.record(0, 4, [], 0, 4, 0, 0, 1, 1), [0])

    def test_fitting_is_asked_while_what_it_ends_still_acts(self):
        line = Line(*TREE)
        line.record(0, 1, [], 2, 1)
        self.assertEqual(line.record(0, 2, [1], 2, 1), [-4])


class RefusedRoom(unittest.TestCase):
    def test_twelve_over_all_stores(self):
        line = Line(*TREE)
        for name in range(12):
            self.assertEqual(line.record(name % 3, name, [], 1, 0, 2 * name, 2 * name + 1), [0])
        before = line.everything()
        for store in range(3):
            self.assertEqual(line.record(store, 50, [], 2, 1), [-6])
        self.assertEqual(line.everything(), before)

    def test_behind_name_and_step_and_ahead_of_the_ends(self):
        line = Line(*TREE)
        for name in range(12):
            line.record(0, name, [], 1, 0, 1, 2)
        self.assertEqual(line.record(0, 3, [77], 2, 0), [-3])
        self.assertEqual(line.record(0, 50, [77], 2, 10), [-1])
        self.assertEqual(line.record(0, 50, [77], 2, 0), [-6])


class RefusedEnds(unittest.TestCase):
    def setUp(self):
        self.line = Line(*TREE)
        self.line.record(0, 1, [], 2, 1)
        self.line.record(1, 2, [], 2, 2)
        self.before = self.line.everything()

    def tearDown(self):
        self.assertEqual(self.line.everything(), self.before)

    def test_not_a_patch_of_the_store(self):
        for ends in ([2], [0], [1, 2], [2, 1], [-1], [BIG], [-BIG]):
            self.assertEqual(self.line.record(0, 5, ends, 2, 5), [-5])

    def test_not_itself(self):
        self.assertEqual(self.line.record(0, 5, [5], 2, 5), [-5])

    def test_told_twice(self):
        self.assertEqual(self.line.record(0, 5, [1, 1], 2, 5), [-5])

    def test_ahead_of_not_fitting(self):
        self.assertEqual(self.line.record(0, 5, [2], 2, 0), [-5])
        self.assertEqual(self.line.record(0, 5, [1, 1], 2, 0), [-5])


class EndsItsOwnNeed(unittest.TestCase):
    def setUp(self):
        self.line = Line(*TREE)
        self.line.record(0, 1, [], 2, 1)
        self.line.record(0, 2, [], 0, 1, 0, 0, 1, 5)
        self.line.record(0, 3, [], 2, 3)

    def test_what_it_needs(self):
        before = self.line.everything()
        for ends in ([1], [2], [3, 1], [1, 2, 3]):
            self.assertEqual(self.line.record(0, 9, ends, 0, 1, 0, 1, 5, 0), [-7])
        self.assertEqual(self.line.everything(), before)

    def test_what_it_does_not_need(self):
        self.assertEqual(self.line.record(0, 9, [3], 0, 1, 0, 1, 5, 0), [2])
        self.assertEqual(self.line.idle(0), [1, 3, 1])

    def test_not_fitting_comes_ahead(self):
        self.assertEqual(self.line.record(0, 9, [2], 0, 1, 0, 1, 6, 0), [-4])

    def test_one_that_is_ended_already_may_be_ended_again(self):
        self.assertEqual(self.line.record(0, 9, [3], 2, 5), [0])
        self.assertEqual(self.line.record(0, 8, [3, 9], 2, 6), [0])
        self.assertEqual(self.line.idle(0), [2, 3, 1, 9, 1])


class Recorded(unittest.TestCase):
    def test_every_kind_of_step(self):
        for what, (step, outcome) in FITTING.items():
            with self.subTest(what):
                line = Line(*TREE)
                self.assertEqual(line.record(1, 6, [], *step), [0])
                self.assertEqual(line.known(1), [1, 6])
                self.assertEqual(line.row(1), [1, 6] + step)
                self.assertEqual(line.block(6), [1, 6] + step + [0])
                self.assertEqual(line.outcome(1), outcome)
                self.assertEqual(line.outcome(0), list(TREE))

    def test_it_is_in_its_store_alone(self):
        line = Line(*TREE)
        line.record(2, 6, [], 2, 1)
        self.assertEqual([line.known(store) for store in range(3)], [[0], [0], [1, 6]])

    def test_what_it_needs_is_counted(self):
        line = Line(1, 0, 3, 1, 2, 3)
        self.assertEqual(line.record(0, 9, [], 0, 0, 0, 1, 1, 1, 7), [0])
        self.assertEqual(line.record(0, 8, [], 0, 0, 1, 1, 2, 1, 7), [1])
        self.assertEqual(line.record(0, 7, [], 0, 0, 2, 1, 3, 1, 7), [2])
        self.assertEqual(line.record(0, 6, [], 2, 1), [0])

    def test_what_a_needed_patch_needs_is_needed(self):
        # 7 just touches 8, and 8 just touches 9; 7 by itself would pass 9.
        line = Line(1, 0, 3, 1, 2, 3)
        line.record(0, 9, [], 0, 0, 0, 1, 1, 1, 4)
        line.record(0, 8, [], 0, 0, 1, 1, 2, 1, 5)
        line.record(0, 7, [], 0, 0, 2, 1, 3, 1, 6)
        self.assertEqual(line.block(7), [3, 9, 0, 0, 0, 1, 1, 1, 4, 8, 0, 0, 1, 1, 2, 1, 5, 7, 0, 0, 2, 1, 3, 1, 6, 0])

    def test_the_block_stands_from_the_first_tree_on(self):
        # 1 puts two tokens ahead; without it what follows stands two places lower.
        line = Line(1, 0, 4, 1, 2, 3, 4)
        self.assertEqual(line.record(0, 1, [], 0, 0, 0, 0, 2, 8, 9), [0])
        self.assertEqual(line.record(0, 5, [], 0, 0, 4, 1, 3, 1, 6), [0])
        self.assertEqual(line.record(0, 3, [], 0, 0, 4, 1, 6, 1, 7), [1])
        self.assertEqual(line.block(5), [1, 5, 0, 0, 2, 1, 3, 1, 6, 0])
        self.assertEqual(line.block(3), [2, 5, 0, 0, 2, 1, 3, 1, 6, 3, 0, 0, 2, 1, 6, 1, 7, 0])
        self.assertEqual(line.outcome(0), [1, 0, 6, 8, 9, 1, 2, 7, 4])

    def test_the_block_has_the_rows_order(self):
        line = Line(2, 0, 0, 1, 0)
        line.record(0, 7, [], 0, 0, 0, 0, 1, 5)
        line.record(0, 8, [], 4, 1, 2)
        line.record(0, 2, [], 0, 0, 0, 1, 5, 0)
        line.record(0, 3, [], 4, 0, 1)
        self.assertEqual(line.row(0), [4, 7, 0, 0, 0, 0, 1, 5, 2, 0, 0, 0, 1, 5, 0, 8, 4, 1, 2, 3, 4, 0, 1])
        self.assertEqual(line.block(3), [2, 8, 4, 1, 2, 3, 4, 0, 1, 0])
        self.assertEqual(line.record(0, 1, [], 3, 1), [4])
        self.assertEqual(line.block(1), [5, 7, 0, 0, 0, 0, 1, 5, 2, 0, 0, 0, 1, 5, 0, 8, 4, 1, 2, 3, 4, 0, 1, 1, 3, 1, 0])

    def test_the_ends_are_told_as_they_were_told(self):
        line = Line(0)
        for name in range(5):
            line.record(0, name, [], 2, name)
        self.assertEqual(line.record(0, 9, [4, 0, 2], 2, 9), [0])
        self.assertEqual(line.block(9), [1, 9, 2, 9, 3, 4, 0, 2])

    def test_an_ended_patch_is_not_needed(self):
        line = Line(1, 0, 1, 1)
        line.record(0, 1, [], 0, 0, 0, 1, 1, 1, 2)
        self.assertEqual(line.record(0, 2, [1], 2, 1), [0])
        self.assertEqual(line.record(0, 3, [], 0, 0, 0, 1, 2, 0), [-4])
        self.assertEqual(line.record(0, 3, [], 0, 0, 0, 1, 1, 0), [0])
        self.assertEqual(line.block(3), [1, 3, 0, 0, 0, 1, 1, 0, 0])


if __name__ == "__main__":
    unittest.main()
