"""Point 4: bring, pull and forget."""

import unittest

from tests.line import Line


def chain():
    """Store 0: 2 needs 5, 8 needs 2 and 5; 3 needs none; 6 needs 3."""
    line = Line(1, 0, 2, 1, 2)
    assert line.record(0, 5, [], 0, 0, 0, 1, 1, 1, 7) == [0]
    assert line.record(0, 2, [], 0, 0, 0, 1, 7, 1, 8) == [1]
    assert line.record(0, 8, [], 0, 0, 0, 1, 8, 1, 9) == [2]
    assert line.record(0, 3, [], 2, 4) == [0]
    assert line.record(0, 6, [], 0, 4, 0, 0, 1, 1) == [1]
    return line


class Bring(unittest.TestCase):
    def setUp(self):
        self.line = chain()

    def test_a_patch_that_needs_none(self):
        self.assertEqual(self.line.bring(1, 0, 3), [1])
        self.assertEqual(self.line.known(1), [1, 3])
        self.assertEqual(self.line.outcome(1), [2, 0, 2, 1, 2, 4, 0])

    def test_a_patch_with_all_that_it_needs(self):
        self.assertEqual(self.line.bring(1, 0, 8), [3])
        self.assertEqual(self.line.known(1), [3, 2, 5, 8])
        self.assertEqual(self.line.outcome(1), [1, 0, 2, 9, 2])

    def test_what_needs_it_does_not_come_along(self):
        self.assertEqual(self.line.bring(1, 0, 2), [2])
        self.assertEqual(self.line.known(1), [2, 2, 5])
        self.assertEqual(self.line.outcome(1), [1, 0, 2, 8, 2])

    def test_what_it_needs_is_partly_there(self):
        self.assertEqual(self.line.bring(1, 0, 5), [1])
        self.assertEqual(self.line.bring(1, 0, 8), [2])
        self.assertEqual(self.line.known(1), [3, 2, 5, 8])

    def test_all_that_it_needs_is_there(self):
        self.line.bring(1, 0, 2)
        self.assertEqual(self.line.bring(1, 0, 8), [1])

    def test_it_is_there_already(self):
        self.line.bring(1, 0, 8)
        before = self.line.everything()
        for name in (8, 2, 5):
            self.assertEqual(self.line.bring(1, 0, name), [0])
        self.assertEqual(self.line.everything(), before)

    def test_from_a_store_to_itself(self):
        before = self.line.everything()
        self.assertEqual(self.line.bring(0, 0, 8), [0])
        self.assertEqual(self.line.everything(), before)

    def test_from_an_empty_store(self):
        before = self.line.everything()
        self.assertEqual(self.line.bring(0, 1, 8), [-3])
        self.assertEqual(self.line.bring(2, 1, 8), [-3])
        self.assertEqual(self.line.everything(), before)

    def test_only_the_first_store_is_changed(self):
        before = self.line.state(0)
        blocks = [self.line.block(name) for name in range(10)]
        self.line.bring(1, 0, 8)
        self.assertEqual(self.line.state(0), before)
        self.assertEqual(self.line.known(2), [0])
        self.assertEqual([self.line.block(name) for name in range(10)], blocks)

    def test_its_step_stands_as_the_store_it_comes_to_asks(self):
        line = Line(1, 0, 4, 1, 2, 3, 4)
        line.record(0, 1, [], 0, 0, 0, 0, 2, 8, 9)
        line.record(0, 5, [], 0, 0, 4, 1, 3, 1, 6)
        self.assertEqual(line.bring(1, 0, 5), [1])
        self.assertEqual(line.row(1), [1, 5, 0, 0, 2, 1, 3, 1, 6])
        self.assertEqual(line.bring(1, 0, 1), [1])
        self.assertEqual(line.row(1), [2, 1, 0, 0, 0, 0, 2, 8, 9, 5, 0, 0, 4, 1, 3, 1, 6])
        self.assertEqual(line.alike(0, 1), [1, 1])

    def test_what_it_ends_is_not_needed_and_does_not_come_along(self):
        self.line.record(0, 9, [3], 2, 7)
        self.assertEqual(self.line.bring(1, 0, 9), [1])
        self.assertEqual(self.line.known(1), [1, 9])

    def test_an_ended_one_may_be_brought(self):
        self.line.record(0, 9, [2], 2, 7)
        self.assertEqual(self.line.bring(1, 0, 8), [3])
        self.assertEqual(self.line.idle(1), [0])
        self.assertEqual(self.line.outcome(1), [1, 0, 2, 9, 2])


class Pull(unittest.TestCase):
    def setUp(self):
        self.line = chain()

    def test_all_of_them_into_an_empty_store(self):
        self.assertEqual(self.line.pull(1, 0), [5])
        self.assertEqual(self.line.state(1), self.line.state(0))
        self.assertEqual(self.line.known(2), [0])

    def test_only_what_is_new_is_counted(self):
        self.line.bring(1, 0, 2)
        self.line.record(1, 9, [], 2, 9)
        self.assertEqual(self.line.pull(1, 0), [3])
        self.assertEqual(self.line.known(1), [6, 2, 3, 5, 6, 8, 9])

    def test_what_the_first_store_has_stays(self):
        self.line.record(1, 9, [], 2, 9)
        self.assertEqual(self.line.pull(1, 0), [5])
        self.assertEqual(self.line.known(1), [6, 2, 3, 5, 6, 8, 9])
        self.assertEqual(self.line.known(0), [5, 2, 3, 5, 6, 8])

    def test_all_is_there_already(self):
        self.line.pull(1, 0)
        before = self.line.everything()
        self.assertEqual(self.line.pull(1, 0), [0])
        self.assertEqual(self.line.pull(0, 1), [0])
        self.assertEqual(self.line.everything(), before)

    def test_from_a_store_to_itself(self):
        before = self.line.everything()
        self.assertEqual(self.line.pull(0, 0), [0])
        self.assertEqual(self.line.pull(2, 2), [0])
        self.assertEqual(self.line.everything(), before)

    def test_from_an_empty_store(self):
        before = self.line.everything()
        self.assertEqual(self.line.pull(0, 1), [0])
        self.assertEqual(self.line.pull(2, 1), [0])
        self.assertEqual(self.line.everything(), before)

    def test_the_stores_are_not_tied_together(self):
        self.line.pull(1, 0)
        self.line.record(0, 9, [], 2, 9)
        self.line.forget(1, 5)
        self.assertEqual(self.line.known(0), [6, 2, 3, 5, 6, 8, 9])
        self.assertEqual(self.line.known(1), [2, 3, 6])

    def test_patches_that_do_not_act_come_along(self):
        self.line.record(0, 9, [5], 2, 9)
        self.assertEqual(self.line.idle(0), [3, 2, 1, 5, 1, 8, 1])
        self.assertEqual(self.line.pull(2, 0), [6])
        self.assertEqual(self.line.state(2), self.line.state(0))


class Forget(unittest.TestCase):
    def setUp(self):
        self.line = chain()

    def test_one_that_none_needs(self):
        self.assertEqual(self.line.forget(0, 8), [1])
        self.assertEqual(self.line.known(0), [4, 2, 3, 5, 6])
        self.assertEqual(self.line.outcome(0), [2, 0, 2, 8, 2, 4, 1, 1])

    def test_one_that_others_need(self):
        self.assertEqual(self.line.forget(0, 5), [3])
        self.assertEqual(self.line.known(0), [2, 3, 6])
        self.assertEqual(self.line.outcome(0), [2, 0, 2, 1, 2, 4, 1, 1])

    def test_one_that_needs_others_and_that_others_need(self):
        self.assertEqual(self.line.forget(0, 2), [2])
        self.assertEqual(self.line.known(0), [3, 3, 5, 6])

    def test_only_the_stores_own_patches_are_counted(self):
        self.line.bring(1, 0, 2)
        self.assertEqual(self.line.forget(1, 5), [2])
        self.assertEqual(self.line.known(1), [0])
        self.assertEqual(self.line.known(0), [5, 2, 3, 5, 6, 8])

    def test_other_stores_keep_it(self):
        self.line.pull(1, 0)
        self.line.pull(2, 0)
        before = [self.line.state(1), self.line.state(2)]
        self.line.forget(0, 5)
        self.assertEqual([self.line.state(1), self.line.state(2)], before)

    def test_one_that_passes_the_forgotten_one_stands_as_if_it_had_never_been_there(self):
        line = Line(1, 0, 4, 1, 2, 3, 4)
        line.record(0, 1, [], 0, 0, 0, 0, 2, 8, 9)
        line.record(0, 5, [], 0, 0, 4, 1, 3, 1, 6)
        self.assertEqual(line.forget(0, 1), [1])
        self.assertEqual(line.row(0), [1, 5, 0, 0, 2, 1, 3, 1, 6])
        self.assertEqual(line.outcome(0), [1, 0, 4, 1, 2, 6, 4])

    def test_what_it_ended_is_live_again(self):
        self.line.record(0, 9, [5], 2, 9)
        self.assertEqual(self.line.idle(0), [3, 2, 1, 5, 1, 8, 1])
        self.assertEqual(self.line.forget(0, 9), [1])
        self.assertEqual(self.line.idle(0), [0])
        self.assertEqual(self.line.outcome(0), [2, 0, 2, 9, 2, 4, 1, 1])

    def test_what_another_one_ends_too_stays_ended(self):
        self.line.record(0, 9, [8], 2, 9)
        self.line.record(0, 7, [8], 2, 7)
        self.assertEqual(self.line.forget(0, 9), [1])
        self.assertEqual(self.line.idle(0), [1, 8, 1])
        self.assertEqual(self.line.forget(0, 7), [1])
        self.assertEqual(self.line.idle(0), [0])

    def test_one_that_ends_is_lost_with_what_it_needs(self):
        self.line.record(0, 9, [8], 0, 4, 1, 0, 1, 2)
        self.assertEqual(self.line.block(9), [3, 3, 2, 4, 6, 0, 4, 0, 0, 1, 1, 9, 0, 4, 1, 0, 1, 2, 1, 8])
        self.assertEqual(self.line.idle(0), [1, 8, 1])
        self.assertEqual(self.line.forget(0, 3), [3])
        self.assertEqual(self.line.idle(0), [0])
        self.assertEqual(self.line.known(0), [3, 2, 5, 8])

    def test_what_ends_a_forgotten_one_stays(self):
        self.line.record(0, 9, [8], 2, 9)
        self.assertEqual(self.line.forget(0, 8), [1])
        self.assertEqual(self.line.known(0), [5, 2, 3, 5, 6, 9])
        self.assertEqual(self.line.block(9), [1, 9, 2, 9, 1, 8])

    def test_an_ended_one_is_forgotten_with_what_needs_it(self):
        self.line.record(0, 9, [5], 2, 9)
        self.assertEqual(self.line.forget(0, 5), [3])
        self.assertEqual(self.line.known(0), [3, 3, 6, 9])
        self.assertEqual(self.line.idle(0), [0])


class ForgottenStaysRecorded(unittest.TestCase):
    def test_its_block_is_still_answered(self):
        line = chain()
        blocks = [line.block(name) for name in range(10)]
        line.forget(0, 5)
        line.forget(0, 3)
        self.assertEqual(line.known(0), [0])
        self.assertEqual([line.block(name) for name in range(10)], blocks)

    def test_its_name_is_still_taken(self):
        line = chain()
        line.forget(0, 5)
        for name in (5, 2, 8):
            for store in range(3):
                self.assertEqual(line.record(store, name, [], 2, 9), [-3])

    def test_it_still_counts_among_the_twelve(self):
        line = Line(1, 0, 0)
        for name in range(12):
            self.assertEqual(line.record(0, name, [], 1, 0, 1, 2), [name])
        self.assertEqual(line.forget(0, 0), [12])
        self.assertEqual(line.known(0), [0])
        for store in range(3):
            self.assertEqual(line.record(store, 50, [], 2, 9), [-6])

    def test_it_may_not_be_ended_any_more(self):
        line = chain()
        line.forget(0, 8)
        self.assertEqual(line.record(0, 9, [8], 2, 9), [-5])

    def test_it_comes_again_from_a_store_that_has_it(self):
        line = chain()
        line.pull(1, 0)
        before = line.everything()
        line.forget(0, 5)
        self.assertEqual(line.bring(0, 1, 8), [3])
        self.assertEqual(line.everything(), before)

    def test_what_is_recorded_then_does_not_see_it(self):
        line = chain()
        line.forget(0, 2)
        self.assertEqual(line.record(0, 9, [], 0, 0, 0, 1, 9, 0), [-4])
        self.assertEqual(line.record(0, 9, [], 0, 0, 0, 1, 7, 0), [1])
        self.assertEqual(line.block(9), [2, 5, 0, 0, 0, 1, 1, 1, 7, 9, 0, 0, 0, 1, 7, 0, 0])


if __name__ == "__main__":
    unittest.main()
