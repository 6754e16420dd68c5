"""Each way in which two steps commute, and its edges."""

import unittest

from patchstores.commuting import commuted
from patchstores.steps import read_step, turned_round, write_step
from tests.line import Line


def hunk(file, place, old, new):
    return [0, file, place, len(old), *old, len(new), *new]


class Commuting(unittest.TestCase):
    def commuted(self, first, second):
        pair = commuted(read_step(first), read_step(second))
        return None if pair is None else [write_step(step) for step in pair]

    def holds(self, first, second, second_then, first_then):
        self.assertEqual(self.commuted(first, second), [second_then, first_then])
        self.assertEqual(self.commuted(second_then, first_then), [first, second])

    def stays(self, first, second):
        self.holds(first, second, second, first)

    def refused(self, first, second):
        self.assertIsNone(self.commuted(first, second))


class NoCommonName(Commuting):
    STEPS = ([0, 1, 0, 1, 5, 0], [1, 1, 5, 6], [2, 1], [3, 1], [4, 1, 2])
    OTHERS = ([0, 3, 0, 1, 5, 0], [1, 3, 5, 6], [2, 3], [3, 3], [4, 3, 4])

    def test_all_stay_as_they_are(self):
        for first in self.STEPS:
            for second in self.OTHERS:
                self.stays(first, second)

    def test_added_and_removed_with_a_common_name(self):
        for first in ([2, 1], [3, 1]):
            for second in ([0, 1, 0, 0, 1, 5], [1, 1, 5, 6], [2, 1], [3, 1], [4, 1, 2], [4, 2, 1]):
                self.refused(first, second)
                self.refused(second, first)

    def test_moves_with_a_common_name(self):
        for second in ([4, 1, 2], [4, 2, 1], [4, 2, 3], [4, 3, 1], [4, 1, 3], [4, 3, 2]):
            self.refused([4, 1, 2], second)


class TwoHunks(Commuting):
    def test_the_second_above(self):
        self.holds(hunk(0, 2, [1], [7, 8, 9]), hunk(0, 6, [4], []), hunk(0, 4, [4], []), hunk(0, 2, [1], [7, 8, 9]))

    def test_the_second_above_a_hunk_with_fewer_new_tokens(self):
        self.holds(hunk(0, 2, [1, 2, 3], []), hunk(0, 3, [], [5]), hunk(0, 6, [], [5]), hunk(0, 2, [1, 2, 3], []))

    def test_the_first_above(self):
        self.holds(hunk(0, 6, [4], []), hunk(0, 2, [1], [7, 8, 9]), hunk(0, 2, [1], [7, 8, 9]), hunk(0, 8, [4], []))

    def test_the_first_above_a_hunk_with_fewer_new_tokens(self):
        self.holds(hunk(0, 6, [], [5]), hunk(0, 2, [1, 2, 3], []), hunk(0, 2, [1, 2, 3], []), hunk(0, 3, [], [5]))

    def test_just_no_token_between(self):
        self.refused(hunk(0, 2, [1], [7, 8]), hunk(0, 4, [4], [5]))
        self.refused(hunk(0, 4, [4], [5]), hunk(0, 2, [1, 2], [7]))

    def test_just_one_token_between(self):
        self.holds(hunk(0, 2, [1], [7, 8]), hunk(0, 5, [4], [5]), hunk(0, 4, [4], [5]), hunk(0, 2, [1], [7, 8]))
        self.holds(hunk(0, 5, [4], [5]), hunk(0, 2, [1, 2], [7]), hunk(0, 2, [1, 2], [7]), hunk(0, 4, [4], [5]))

    def test_old_tokens_of_the_first_and_new_ones_of_the_second_do_not_matter(self):
        self.holds(hunk(0, 0, [1] * 8, [2]), hunk(0, 2, [], [3]), hunk(0, 9, [], [3]), hunk(0, 0, [1] * 8, [2]))
        self.holds(hunk(0, 2, [], [3]), hunk(0, 0, [2], [1] * 8), hunk(0, 0, [2], [1] * 8), hunk(0, 9, [], [3]))

    def test_one_place(self):
        self.refused(hunk(0, 3, [], [5]), hunk(0, 3, [], [6]))
        self.refused(hunk(0, 3, [5], []), hunk(0, 3, [6], []))
        self.refused(hunk(0, 3, [5], []), hunk(0, 3, [], [6]))

    def test_no_new_tokens_and_none_between(self):
        self.refused(hunk(0, 3, [5], []), hunk(0, 2, [4], []))
        self.stays(hunk(0, 3, [5], [7]), hunk(0, 1, [4], [8]))
        self.holds(hunk(0, 3, [5], []), hunk(0, 1, [4], []), hunk(0, 1, [4], []), hunk(0, 2, [5], []))

    def test_one_inside_the_other(self):
        self.refused(hunk(0, 2, [], [5, 6, 7]), hunk(0, 3, [6], []))
        self.refused(hunk(0, 3, [6], [8]), hunk(0, 2, [5, 8, 7], []))

    def test_they_stay_in_their_file(self):
        self.holds(hunk(4, 2, [1], []), hunk(4, 3, [4], []), hunk(4, 4, [4], []), hunk(4, 2, [1], []))
        self.holds(hunk(4, 4, [4], []), hunk(4, 2, [1], []), hunk(4, 2, [1], []), hunk(4, 3, [4], []))

    def test_hunks_of_unlike_files_stay(self):
        self.stays(hunk(0, 2, [1], [7, 8]), hunk(1, 2, [1], [7, 8]))

    def test_a_place_may_get_beyond_1000(self):
        pair = self.commuted(hunk(0, 1000, [1], []), hunk(0, 0, [], [5]))
        self.assertEqual(pair, [hunk(0, 0, [], [5]), hunk(0, 1001, [1], [])])


class HunksAndSwaps(Commuting):
    def test_a_hunk_and_a_swap(self):
        self.holds(hunk(0, 2, [1, 2, 3], [2, 2]), [1, 0, 1, 2], [1, 0, 1, 2], hunk(0, 2, [2, 1, 3], [1, 1]))

    def test_a_swap_and_a_hunk(self):
        self.holds([1, 0, 1, 2], hunk(0, 2, [1, 2, 3], []), hunk(0, 2, [2, 1, 3], []), [1, 0, 1, 2])

    def test_a_hunk_without_the_swaps_tokens(self):
        self.stays(hunk(0, 2, [5], [6]), [1, 0, 1, 2])
        self.stays([1, 0, 1, 2], hunk(0, 2, [5], [6]))

    def test_in_unlike_files(self):
        self.stays(hunk(0, 2, [1], [2]), [1, 1, 1, 2])
        self.stays([1, 1, 1, 2], hunk(0, 2, [1], [2]))


class TwoSwaps(Commuting):
    def test_no_common_token(self):
        self.stays([1, 0, 1, 2], [1, 0, 4, 3])

    def test_a_common_token(self):
        for tokens in ([1, 2], [2, 1], [1, 3], [3, 1], [2, 3], [3, 2]):
            self.refused([1, 0, 1, 2], [1, 0] + tokens)

    def test_a_token_like_the_files_number_is_no_common_one(self):
        self.stays([1, 3, 3, 4], [1, 3, 5, 6])
        self.stays([1, 3, 4, 3], [1, 3, 5, 6])

    def test_a_common_token_in_unlike_files(self):
        self.stays([1, 0, 1, 2], [1, 1, 2, 1])


class MovesAndInside(Commuting):
    def test_a_move_and_a_step_inside_its_new_name(self):
        self.holds([4, 0, 5], hunk(5, 2, [1], [2]), hunk(0, 2, [1], [2]), [4, 0, 5])
        self.holds([4, 0, 5], [1, 5, 1, 2], [1, 0, 1, 2], [4, 0, 5])

    def test_a_step_inside_a_file_and_its_move(self):
        self.holds(hunk(0, 2, [1], [2]), [4, 0, 5], [4, 0, 5], hunk(5, 2, [1], [2]))
        self.holds([1, 0, 1, 2], [4, 0, 5], [4, 0, 5], [1, 5, 1, 2])

    def test_a_file_that_is_not_the_moved_one(self):
        self.refused([4, 0, 5], hunk(0, 2, [1], [2]))
        self.refused(hunk(5, 2, [1], [2]), [4, 0, 5])
        self.refused([4, 0, 5], [1, 0, 1, 2])
        self.refused([1, 5, 1, 2], [4, 0, 5])


class TurnedRound(unittest.TestCase):
    def test_every_kind(self):
        for step, turned in (
            ([0, 1, 7, 1, 5, 2, 6, 7], [0, 1, 7, 2, 6, 7, 1, 5]),
            ([1, 0, 1, 2], [1, 0, 1, 2]),
            ([2, 3], [3, 3]),
            ([3, 3], [2, 3]),
            ([4, 0, 5], [4, 5, 0]),
        ):
            self.assertEqual(write_step(turned_round(read_step(step))), turned)
            self.assertEqual(write_step(turned_round(read_step(turned))), step)


# The same edges, as the calls tell them: what is passed isn't needed.
class NeedsThroughTheCalls(unittest.TestCase):
    def needs(self, tree, first, second):
        line = Line(*tree)
        self.assertEqual(line.record(0, 1, [], *first), [0])
        found = line.record(0, 2, [], *second)
        return found, line.block(2)

    def test_hunks_with_no_token_between_and_with_one(self):
        tree = (1, 0, 4, 1, 2, 3, 4)
        first = hunk(0, 0, [1], [8, 9])
        self.assertEqual(self.needs(tree, first, hunk(0, 2, [2], [])), ([1], [2, 1, *first, 2, 0, 0, 2, 1, 2, 0, 0]))
        self.assertEqual(self.needs(tree, first, hunk(0, 3, [3], [])), ([0], [1, 2, 0, 0, 2, 1, 3, 0, 0]))
        first = hunk(0, 2, [3], [])
        self.assertEqual(self.needs(tree, first, hunk(0, 1, [2], []))[0], [1])
        self.assertEqual(self.needs(tree, first, hunk(0, 0, [1], []))[0], [0])
        self.assertEqual(self.needs(tree, first, hunk(0, 1, [], [7]))[0], [0])
        self.assertEqual(self.needs(tree, first, hunk(0, 2, [], [7]))[0], [1])

    def test_a_move_and_a_step_inside(self):
        tree = (1, 0, 1, 1)
        self.assertEqual(self.needs(tree, [4, 0, 3], hunk(3, 0, [1], [])), ([0], [1, 2, 0, 0, 0, 1, 1, 0, 0]))
        self.assertEqual(self.needs(tree, hunk(0, 0, [1], []), [4, 0, 3]), ([0], [1, 2, 4, 0, 3, 0]))
        self.assertEqual(self.needs(tree, [4, 0, 3], [2, 0])[0], [1])

    def test_a_swap_and_a_hunk(self):
        tree = (1, 0, 2, 1, 2)
        self.assertEqual(self.needs(tree, [1, 0, 1, 2], hunk(0, 0, [2], [1])), ([0], [1, 2, 0, 0, 0, 1, 1, 1, 2, 0]))
        self.assertEqual(self.needs(tree, [1, 0, 1, 2], [1, 0, 3, 4])[0], [0])
        self.assertEqual(self.needs(tree, [1, 0, 1, 2], [1, 0, 3, 2])[0], [1])


if __name__ == "__main__":
    unittest.main()
