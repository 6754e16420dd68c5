"""Point 2: no tree yet, then no such store, then what comes behind that."""

import unittest

from tests.line import Line, answered, record_call, tree_call

BIG = 10 ** 18
STORES_THAT_ARE_NOT = (-1, 3, 4, -BIG, BIG)


class NoTree(unittest.TestCase):
    def test_every_call_of_a_store(self):
        for call in range(2, 7):
            for store in (0, 1, 2):
                self.assertEqual(answered([call, store]), [[-8]])

    def test_ahead_of_no_such_store(self):
        for call in range(2, 7):
            for store in STORES_THAT_ARE_NOT:
                self.assertEqual(answered([call, store]), [[-8]])

    def test_record_ahead_of_all_else(self):
        self.assertEqual(answered(record_call(0, 1, [], [2, 1])), [[-8]])
        self.assertEqual(answered(record_call(3, 100, [5, 5], [])), [[-8]])

    def test_block_ahead_of_no_such_name(self):
        self.assertEqual(answered([7, 0], [7, -1], [7, BIG]), [[-8], [-8], [-8]])

    def test_recording_without_a_tree_changes_nothing(self):
        found = answered(record_call(0, 1, [], [2, 1]), tree_call([0]), [2, 0], [7, 1])
        self.assertEqual(found, [[-8], [0], [0], [-3]])


class NoSuchStore(unittest.TestCase):
    def test_every_call_of_a_store(self):
        line = Line(0)
        for call in range(2, 7):
            for store in STORES_THAT_ARE_NOT:
                self.assertEqual(line.ask([call, store]), [-2])

    def test_record_ahead_of_all_that_is_behind(self):
        line = Line(0)
        for store in STORES_THAT_ARE_NOT:
            self.assertEqual(line.record(store, 1, [], 2, 1), [-2])
            self.assertEqual(line.record(store, 100, [5, 5]), [-2])
        self.assertEqual(line.everything(), Line(0).everything())

    def test_all_three_stores_are_there(self):
        line = Line(0)
        for store in range(3):
            self.assertEqual(line.known(store), [0])
            self.assertEqual(line.row(store), [0])
            self.assertEqual(line.outcome(store), [0])
            self.assertEqual(line.conflicts(store), [0])
            self.assertEqual(line.idle(store), [0])


class NoSuchBlock(unittest.TestCase):
    def test_names_that_are_not_recorded(self):
        line = Line(0)
        line.record(1, 5, [], 2, 1)
        for name in (0, 4, 6, 99, 100, -1, BIG, -BIG):
            self.assertEqual(line.block(name), [-3])
        self.assertEqual(line.block(5), [1, 5, 2, 1, 0])

    def test_a_refused_patch_has_no_block(self):
        line = Line(0)
        self.assertEqual(line.record(1, 5, [], 3, 1), [-4])
        self.assertEqual(line.block(5), [-3])


if __name__ == "__main__":
    unittest.main()
