"""Point 2: no tree yet, then no such store, then what comes behind that."""

import unittest

from tests.line import Line, answered, record_call, tree_call

BIG = 10 ** 18
STORES_THAT_ARE_NOT = (-1, 3, 4, -BIG, BIG)
NAMES_OF_NO_PATCH = (-1, 100, -BIG, BIG)

# bring, pull and alike name two stores, with what is behind them; the others of 8 to 14 one, if any.
CALLS_OF_TWO_STORES = ((8, [5]), (9, []), (14, []))
CALLS_OF_ONE_STORE = ((10, 5), (11, 0), (13, 0))


class NoTree(unittest.TestCase):
    def test_every_call_of_a_store(self):
        for call in range(2, 7):
            for store in (0, 1, 2):
                self.assertEqual(answered([call, store]), [[-8]])

    def test_ahead_of_no_such_store(self):
        for call in range(2, 7):
            for store in STORES_THAT_ARE_NOT:
                self.assertEqual(answered([call, store]), [[-8]])

    def test_record_ahead_of_all_else(self):
        self.assertEqual(answered(record_call(0, 1, [], [2, 1])), [[-8]])
        self.assertEqual(answered(record_call(3, 100, [5, 5], [])), [[-8]])

    def test_block_ahead_of_no_such_name(self):
        self.assertEqual(answered([7, 0], [7, -1], [7, BIG]), [[-8], [-8], [-8]])

    def test_the_calls_of_two_stores(self):
        for call, behind in CALLS_OF_TWO_STORES:
            for store, other in ((0, 1), (2, 2), (3, 0), (0, -1), (BIG, -BIG)):
                self.assertEqual(answered([call, store, other, *behind]), [[-8]])

    def test_bring_and_forget_ahead_of_no_such_name(self):
        for name in NAMES_OF_NO_PATCH:
            self.assertEqual(answered([8, 0, 1, name], [10, 0, name], [10, 3, name]), [[-8], [-8], [-8]])

    def test_the_calls_of_a_tag(self):
        for tag in (0, 3, -1, 4, BIG, -BIG):
            self.assertEqual(answered([11, 0, tag], [12, tag], [13, 0, tag]), [[-8], [-8], [-8]])
            self.assertEqual(answered([11, 3, tag], [13, -1, tag]), [[-8], [-8]])

    def test_after_a_refused_tree_too(self):
        found = answered([0, 0], [8, 0, 1, 5], [9, 0, 1], [10, 0, 5], [11, 0, 0], [12, 0], [13, 0, 0], [14, 0, 0])
        self.assertEqual(found, [[-1]] + [[-8]] * 7)

    def test_a_tag_without_a_tree_is_not_set(self):
        self.assertEqual(answered([11, 0, 2], tree_call([0]), [12, 2]), [[-8], [0], [-5]])

    def test_recording_without_a_tree_changes_nothing(self):
        found = answered(record_call(0, 1, [], [2, 1]), tree_call([0]), [2, 0], [7, 1])
        self.assertEqual(found, [[-8], [0], [0], [-3]])


class NoSuchStore(unittest.TestCase):
    def test_every_call_of_a_store(self):
        line = Line(0)
        for call in range(2, 7):
            for store in STORES_THAT_ARE_NOT:
                self.assertEqual(line.ask([call, store]), [-2])

    def test_record_ahead_of_all_that_is_behind(self):
        line = Line(0)
        for store in STORES_THAT_ARE_NOT:
            self.assertEqual(line.record(store, 1, [], 2, 1), [-2])
            self.assertEqual(line.record(store, 100, [5, 5]), [-2])
        self.assertEqual(line.everything(), Line(0).everything())

    def test_all_three_stores_are_there(self):
        line = Line(0)
        for store in range(3):
            self.assertEqual(line.known(store), [0])
            self.assertEqual(line.row(store), [0])
            self.assertEqual(line.outcome(store), [0])
            self.assertEqual(line.conflicts(store), [0])
            self.assertEqual(line.idle(store), [0])


class SomePatches(unittest.TestCase):
    """Store 0 has 5 and 6, store 1 has 7; tag 0 is set."""

    def setUp(self):
        self.line = Line(1, 0, 1, 1)
        self.line.record(0, 5, [], 2, 1)
        self.line.record(0, 6, [], 2, 2)
        self.line.record(1, 7, [], 2, 3)
        self.line.tag(0, 0)
        self.before = self.line.everything()

    def tearDown(self):
        self.assertEqual(self.line.everything(), self.before)


class NoSuchStoreOfBoth(SomePatches):
    def test_the_first_one(self):
        for call, behind in CALLS_OF_TWO_STORES:
            for store in STORES_THAT_ARE_NOT:
                self.assertEqual(self.line.ask([call, store, 0, *behind]), [-2])

    def test_the_second_one(self):
        for call, behind in CALLS_OF_TWO_STORES:
            for store in STORES_THAT_ARE_NOT:
                self.assertEqual(self.line.ask([call, 0, store, *behind]), [-2])

    def test_both(self):
        for call, behind in CALLS_OF_TWO_STORES:
            for store in STORES_THAT_ARE_NOT:
                for other in STORES_THAT_ARE_NOT:
                    self.assertEqual(self.line.ask([call, store, other, *behind]), [-2])

    def test_of_bring_ahead_of_no_such_name(self):
        for name in (7, 8) + NAMES_OF_NO_PATCH:
            self.assertEqual(self.line.bring(3, 0, name), [-2])
            self.assertEqual(self.line.bring(0, 3, name), [-2])
            self.assertEqual(self.line.bring(-1, 3, name), [-2])

    def test_the_calls_of_one_store(self):
        for call, behind in CALLS_OF_ONE_STORE:
            for store in STORES_THAT_ARE_NOT:
                self.assertEqual(self.line.ask([call, store, behind]), [-2])

    def test_of_forget_ahead_of_no_such_name(self):
        for name in (7, 8) + NAMES_OF_NO_PATCH:
            self.assertEqual(self.line.forget(3, name), [-2])

    def test_of_tag_and_back_ahead_of_no_such_tag(self):
        for tag in (1, 3, 4, -1, BIG, -BIG):
            self.assertEqual(self.line.tag(3, tag), [-2])
            self.assertEqual(self.line.back(-1, tag), [-2])


class NoSuchPatch(SomePatches):
    def test_bring_of_a_name_that_only_another_store_has(self):
        self.assertEqual(self.line.bring(2, 0, 7), [-3])
        self.assertEqual(self.line.bring(2, 1, 5), [-3])
        self.assertEqual(self.line.bring(0, 2, 5), [-3])

    def test_bring_of_a_name_that_only_the_first_store_has(self):
        self.assertEqual(self.line.bring(0, 1, 5), [-3])
        self.assertEqual(self.line.bring(1, 0, 7), [-3])

    def test_bring_of_a_name_that_was_never_recorded(self):
        for name in (0, 4, 8, 99) + NAMES_OF_NO_PATCH:
            for source in range(3):
                self.assertEqual(self.line.bring(2, source, name), [-3])

    def test_forget_of_a_name_that_another_store_has(self):
        self.assertEqual(self.line.forget(0, 7), [-3])
        self.assertEqual(self.line.forget(1, 5), [-3])
        self.assertEqual(self.line.forget(2, 6), [-3])

    def test_forget_of_a_name_that_was_never_recorded(self):
        for name in (0, 4, 8, 99) + NAMES_OF_NO_PATCH:
            for store in range(3):
                self.assertEqual(self.line.forget(store, name), [-3])

    def test_a_refused_patch_is_in_no_store(self):
        self.assertEqual(self.line.record(0, 9, [], 3, 7), [-4])
        self.assertEqual(self.line.bring(1, 0, 9), [-3])
        self.assertEqual(self.line.forget(0, 9), [-3])


class NoSuchPatchAnyMore(unittest.TestCase):
    def test_one_that_is_forgotten_already(self):
        line = Line(0)
        line.record(0, 5, [], 2, 1)
        line.forget(0, 5)
        self.assertEqual(line.forget(0, 5), [-3])
        self.assertEqual(line.bring(1, 0, 5), [-3])

    def test_one_of_the_tree_before(self):
        line = Line(0)
        line.record(0, 5, [], 2, 1)
        line.tree(0)
        self.assertEqual(line.forget(0, 5), [-3])
        self.assertEqual(line.bring(1, 0, 5), [-3])


class NoSuchBlock(unittest.TestCase):
    def test_names_that_are_not_recorded(self):
        line = Line(0)
        line.record(1, 5, [], 2, 1)
        for name in (0, 4, 6, 99, 100, -1, BIG, -BIG):
            self.assertEqual(line.block(name), [-3])
        self.assertEqual(line.block(5), [1, 5, 2, 1, 0])

    def test_a_refused_patch_has_no_block(self):
        line = Line(0)
        self.assertEqual(line.record(1, 5, [], 3, 1), [-4])
        self.assertEqual(line.block(5), [-3])


if __name__ == "__main__":
    unittest.main()
