"""The document's Example."""

import unittest

from tests.line import Line, answered, record_call, tree_call


class Example(unittest.TestCase):
    def test_so_far_as_calls_alone_bring_it_about(self):
        found = answered(
            tree_call([1, 0, 5, 1, 2, 3, 4, 5]),
            record_call(0, 7, [], [0, 0, 0, 1, 1, 2, 9, 9]),
            record_call(1, 3, [], [0, 0, 4, 1, 5, 1, 6]),
            record_call(1, 4, [], [0, 0, 0, 1, 1, 1, 8]),
            record_call(1, 5, [], [0, 0, 1, 1, 2, 0]),
            [7, 5],
        )
        block = [2, 4, 0, 0, 0, 1, 1, 1, 8, 5, 0, 0, 1, 1, 2, 0, 0]
        self.assertEqual(found, [[1], [0], [0], [0], [1], block])

    def test_with_the_stores_shared(self):
        line = Line(1, 0, 5, 1, 2, 3, 4, 5)
        self.assertEqual(line.record(0, 7, [], 0, 0, 0, 1, 1, 2, 9, 9), [0])
        self.assertEqual(line.record(1, 3, [], 0, 0, 4, 1, 5, 1, 6), [0])
        self.assertEqual(line.record(1, 4, [], 0, 0, 0, 1, 1, 1, 8), [0])
        line.share(0, 1)
        self.assertEqual(line.conflicts(0), [1, 4, 7])
        self.assertEqual(line.idle(0), [2, 4, 2, 7, 2])
        self.assertEqual(line.row(0), [1, 3, 0, 0, 4, 1, 5, 1, 6])
        self.assertEqual(line.outcome(0), [1, 0, 5, 1, 2, 3, 4, 6])
        self.assertEqual(line.record(0, 9, [4, 7], 0, 0, 0, 1, 1, 2, 8, 9), [0])
        self.assertEqual(line.idle(0), [2, 4, 1, 7, 1])
        self.assertEqual(line.outcome(0), [1, 0, 6, 8, 9, 2, 3, 4, 6])
        self.assertEqual(line.record(1, 5, [], 0, 0, 1, 1, 2, 0), [1])
        self.assertEqual(line.block(5), [2, 4, 0, 0, 0, 1, 1, 1, 8, 5, 0, 0, 1, 1, 2, 0, 0])
        line.share(1, 0)
        self.assertEqual(line.idle(1), [3, 4, 1, 5, 1, 7, 1])
        self.assertEqual(line.row(1), line.row(0))
        line.keeper.stores[0][5] = True
        self.assertEqual(line.known(0), line.known(1))
        line.keeper.stores[0].pop(9)
        self.assertEqual(line.conflicts(0), [2, 4, 7, 5, 7])
        self.assertEqual(line.known(1), [5, 3, 4, 5, 7, 9])
        self.assertEqual(line.outcome(1), [1, 0, 6, 8, 9, 2, 3, 4, 6])


if __name__ == "__main__":
    unittest.main()
