"""Point 1: tree."""

import unittest

from tests.line import Line, answered, tree_call

BIG = 10 ** 18

WRONG = {
    "nothing": [],
    "a count below 0": [-1],
    "a count and no file": [1],
    "a name and no count": [1, 0],
    "a token missing": [1, 0, 2, 5],
    "a file missing": [2, 0, 1, 5],
    "a number behind it": [1, 0, 1, 5, 0],
    "a number behind no files": [0, 0],
    "a file behind it": [1, 0, 0, 1, 0],
    "seven files": [7, 0, 0, 1, 0, 2, 0, 3, 0, 4, 0, 5, 0, 6, 0],
    "thirteen tokens": [1, 0, 13] + [1] * 13,
    "a token count below 0": [1, 0, -1],
    "a token count below 0 with a token": [1, 0, -1, 5],
    "a token below 0": [1, 0, 1, -1],
    "a token above 99": [1, 0, 2, 5, 100],
    "a name below 0": [1, -1, 0],
    "a name above 9": [1, 10, 0],
    "names falling": [2, 3, 0, 1, 0],
    "a name twice": [2, 3, 0, 3, 0],
    "great counts": [BIG],
    "a great token count": [1, 0, BIG],
    "a great name": [1, BIG, 0],
    "a great token": [1, 0, 1, BIG],
    "all below": [-BIG] * 100,
}


class TreeTaken(unittest.TestCase):
    def test_answers_how_many_files(self):
        for numbers, files in (([0], 0), ([1, 0, 0], 1), ([1, 0, 5, 1, 2, 3, 4, 5], 1), ([2, 0, 1, 7, 9, 0], 2)):
            self.assertEqual(answered(tree_call(numbers)), [[files]])

    def test_the_outcome_of_every_empty_store_is_the_tree(self):
        numbers = [3, 0, 2, 99, 0, 4, 0, 9, 1, 50]
        found = answered(tree_call(numbers), [4, 0], [4, 1], [4, 2])
        self.assertEqual(found, [[3], numbers, numbers, numbers])

    def test_the_greatest_tree_is_taken(self):
        numbers = [6]
        for name in (0, 2, 4, 5, 8, 9):
            numbers += [name, 12] + [99] * 12
        self.assertEqual(len(numbers), 85)
        self.assertEqual(answered(tree_call(numbers), [4, 2]), [[6], numbers])


class TreeRefused(unittest.TestCase):
    def test_lists_that_are_not_whole_a_tree(self):
        for what, numbers in WRONG.items():
            with self.subTest(what):
                self.assertEqual(answered(tree_call(numbers)), [[-1]])

    def test_no_tree_is_there_after_a_refusal(self):
        for what, numbers in WRONG.items():
            with self.subTest(what):
                self.assertEqual(answered(tree_call(numbers), [2, 0]), [[-1], [-8]])

    def test_nothing_is_changed_by_a_refusal(self):
        line = Line(1, 0, 2, 5, 6)
        line.record(0, 3, [], 0, 0, 0, 1, 5, 0)
        line.record(0, 4, [3], 0, 0, 0, 0, 1, 9)
        before = line.everything()
        for what, numbers in WRONG.items():
            with self.subTest(what):
                self.assertEqual(line.tree(*numbers), [-1])
                self.assertEqual(line.everything(), before)


class TreeAnew(unittest.TestCase):
    def test_a_second_tree_begins_anew(self):
        line = Line(1, 0, 2, 5, 6)
        for store in range(3):
            self.assertEqual(line.record(store, store, [], 2, 5), [0])
        self.assertEqual(line.tree(2, 1, 0, 2, 1, 8), [2])
        self.assertEqual(line.everything(), Line(2, 1, 0, 2, 1, 8).everything())
        for store in range(3):
            self.assertEqual(line.known(store), [0])
            self.assertEqual(line.outcome(store), [2, 1, 0, 2, 1, 8])
            self.assertEqual(line.block(store), [-3])

    def test_names_and_room_are_free_again(self):
        line = Line(1, 0, 0)
        for name in range(12):
            self.assertEqual(line.record(0, name, [], 1, 0, 1, 2), [name])
        self.assertEqual(line.record(0, 12, [], 1, 0, 1, 2), [-6])
        self.assertEqual(line.tree(1, 0, 0), [1])
        self.assertEqual(line.record(0, 0, [], 1, 0, 1, 2), [0])
        self.assertEqual(line.known(0), [1, 0])


if __name__ == "__main__":
    unittest.main()
