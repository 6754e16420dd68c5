"""Point 5: tag, at and back; and point 1 of them: after a second tree there are no tags."""

import unittest

from tests.line import Line, answered, tree_call

BIG = 10 ** 18
TAGS_THAT_ARE_NOT = (-1, 4, 5, BIG, -BIG)


def two_patches():
    """Store 0: 2 needs 5."""
    line = Line(1, 0, 2, 1, 2)
    assert line.record(0, 5, [], 0, 0, 0, 1, 1, 1, 7) == [0]
    assert line.record(0, 2, [], 0, 0, 0, 1, 7, 1, 8) == [1]
    return line


class Tag(unittest.TestCase):
    def setUp(self):
        self.line = two_patches()

    def test_answers_how_many_patches_the_store_has(self):
        self.assertEqual(self.line.tag(0, 0), [2])
        self.assertEqual(self.line.tag(1, 3), [0])

    def test_counts_those_that_do_not_act_too(self):
        self.line.record(0, 9, [2], 2, 9)
        self.assertEqual(self.line.tag(0, 0), [3])
        self.assertEqual(self.line.at(0), [2, 0, 2, 7, 2, 9, 0])

    def test_changes_no_store(self):
        before = [self.line.state(store) for store in range(3)]
        self.line.tag(0, 0)
        self.line.tag(1, 0)
        self.assertEqual([self.line.state(store) for store in range(3)], before)

    def test_all_four_are_apart(self):
        self.line.tag(0, 0)
        self.line.tag(1, 1)
        self.line.bring(1, 0, 5)
        self.line.tag(1, 2)
        self.line.record(1, 9, [], 2, 9)
        self.line.tag(1, 3)
        found = [self.line.at(tag) for tag in range(4)]
        self.assertEqual(found, [[1, 0, 2, 8, 2], [1, 0, 2, 1, 2], [1, 0, 2, 7, 2], [2, 0, 2, 7, 2, 9, 0]])

    def test_one_that_is_not_from_0_to_3(self):
        before = self.line.everything()
        for tag in TAGS_THAT_ARE_NOT:
            for store in range(3):
                self.assertEqual(self.line.tag(store, tag), [-5])
        self.assertEqual(self.line.everything(), before)
        for tag in TAGS_THAT_ARE_NOT:
            self.assertEqual(self.line.at(tag), [-5])

    def test_a_refused_one_leaves_those_that_are_set(self):
        for tag in range(4):
            self.line.tag(0, tag)
        self.line.record(0, 9, [], 2, 9)
        before = self.line.everything()
        for tag in TAGS_THAT_ARE_NOT:
            self.assertEqual(self.line.tag(0, tag), [-5])
        self.assertEqual(self.line.tag(3, 0), [-2])
        self.assertEqual(self.line.everything(), before)

    def test_set_again_it_is_the_new_patches(self):
        self.line.tag(0, 1)
        self.line.forget(0, 2)
        self.assertEqual(self.line.tag(0, 1), [1])
        self.assertEqual(self.line.at(1), [1, 0, 2, 7, 2])
        self.assertEqual(self.line.back(2, 1), [1])
        self.assertEqual(self.line.known(2), [1, 5])

    def test_set_again_from_another_store(self):
        self.line.tag(0, 1)
        self.assertEqual(self.line.tag(2, 1), [0])
        self.assertEqual(self.line.at(1), [1, 0, 2, 1, 2])
        self.assertEqual(self.line.back(0, 1), [0])
        self.assertEqual(self.line.known(0), [0])


class TagKeepsThePatches(unittest.TestCase):
    def setUp(self):
        self.line = two_patches()
        self.line.tag(0, 2)
        self.told = self.line.tagged(2)
        self.assertEqual(self.line.at(2), [1, 0, 2, 8, 2])

    def tearDown(self):
        self.assertEqual(self.line.tagged(2), self.told)
        self.assertEqual(self.line.back(1, 2), [2])
        self.assertEqual(self.line.known(1), [2, 2, 5])
        self.assertEqual(self.line.outcome(1), [1, 0, 2, 8, 2])

    def test_after_recording(self):
        self.line.record(0, 9, [], 2, 9)

    def test_after_what_ends_them(self):
        self.line.record(0, 9, [5, 2], 2, 9)
        self.assertEqual(self.line.outcome(0), [2, 0, 2, 1, 2, 9, 0])

    def test_after_forgetting(self):
        self.line.forget(0, 5)
        self.assertEqual(self.line.known(0), [0])

    def test_after_pulling_what_conflicts(self):
        self.line.record(1, 9, [], 0, 0, 0, 1, 1, 0)
        self.line.pull(0, 1)
        self.assertEqual(self.line.conflicts(0), [2, 2, 9, 5, 9])

    def test_after_bringing(self):
        self.line.record(1, 9, [], 2, 9)
        self.line.bring(0, 1, 9)

    def test_after_going_back_to_it_and_changing_the_store(self):
        self.line.back(0, 2)
        self.line.record(0, 9, [], 2, 9)
        self.line.forget(0, 2)

    def test_after_going_back_to_another_one(self):
        self.line.tag(1, 0)
        self.line.back(0, 0)
        self.assertEqual(self.line.known(0), [0])

    def test_after_another_tag_is_set(self):
        self.line.forget(0, 2)
        self.line.tag(0, 3)


class At(unittest.TestCase):
    def test_the_outcome_in_conflict(self):
        line = two_patches()
        line.record(1, 9, [], 0, 0, 0, 1, 1, 0)
        line.record(1, 3, [], 2, 3)
        line.pull(0, 1)
        line.tag(0, 0)
        self.assertEqual(line.at(0), [2, 0, 2, 1, 2, 3, 0])
        self.assertEqual(line.at(0), line.outcome(0))

    def test_of_an_empty_store_it_is_the_first_tree(self):
        line = Line(2, 0, 2, 1, 2, 7, 0)
        self.assertEqual(line.tag(1, 0), [0])
        self.assertEqual(line.at(0), [2, 0, 2, 1, 2, 7, 0])

    def test_no_files(self):
        self.assertEqual(answered(tree_call([0]), [11, 0, 0], [12, 0]), [[0], [0], [0]])

    def test_no_such_tag_or_one_that_is_not_set(self):
        line = two_patches()
        line.tag(0, 1)
        before = line.everything()
        for tag in (0, 2, 3) + TAGS_THAT_ARE_NOT:
            self.assertEqual(line.at(tag), [-5])
        self.assertEqual(line.everything(), before)


class Back(unittest.TestCase):
    def setUp(self):
        self.line = two_patches()
        self.line.tag(0, 1)

    def test_into_the_tagged_store(self):
        self.line.record(0, 9, [5], 2, 9)
        self.assertEqual(self.line.back(0, 1), [2])
        self.assertEqual(self.line.known(0), [2, 2, 5])
        self.assertEqual(self.line.outcome(0), [1, 0, 2, 8, 2])

    def test_into_another_store_that_is_empty(self):
        self.assertEqual(self.line.back(2, 1), [2])
        self.assertEqual(self.line.state(2), self.line.state(0))
        self.assertEqual(self.line.known(1), [0])

    def test_into_another_store_it_has_just_the_tags_patches(self):
        self.line.record(2, 9, [], 2, 9)
        self.line.bring(2, 0, 5)
        self.assertEqual(self.line.back(2, 1), [2])
        self.assertEqual(self.line.known(2), [2, 2, 5])
        self.assertEqual(self.line.alike(0, 2), [1, 1])
        self.assertEqual(self.line.block(9), [1, 9, 2, 9, 0])

    def test_to_no_patches(self):
        self.line.tag(1, 0)
        self.assertEqual(self.line.back(0, 0), [0])
        self.assertEqual(self.line.known(0), [0])
        self.assertEqual(self.line.outcome(0), [1, 0, 2, 1, 2])

    def test_to_what_it_is_already(self):
        before = self.line.everything()
        self.assertEqual(self.line.back(0, 1), [2])
        self.assertEqual(self.line.everything(), before)

    def test_patches_that_all_stores_have_forgotten_come_again(self):
        self.line.forget(0, 5)
        self.assertEqual(self.line.back(1, 1), [2])
        self.assertEqual(self.line.outcome(1), [1, 0, 2, 8, 2])
        self.assertEqual(self.line.bring(0, 1, 2), [2])

    def test_two_stores_that_went_back_are_not_tied_together(self):
        self.line.back(1, 1)
        self.line.back(2, 1)
        self.line.forget(1, 2)
        self.line.record(2, 9, [], 2, 9)
        self.assertEqual([self.line.known(store) for store in range(3)], [[2, 2, 5], [1, 5], [3, 2, 5, 9]])

    def test_no_such_tag_or_one_that_is_not_set(self):
        before = self.line.everything()
        for tag in (0, 2, 3) + TAGS_THAT_ARE_NOT:
            for store in range(3):
                self.assertEqual(self.line.back(store, tag), [-5])
        self.assertEqual(self.line.everything(), before)


class OrderOfRefusals(unittest.TestCase):
    def test_no_tree_then_no_such_store_then_no_such_tag(self):
        for call in (11, 13):
            self.assertEqual(answered([call, 3, 4], [call, 0, 4]), [[-8], [-8]])
            self.assertEqual(answered(tree_call([0]), [call, 3, 4], [call, 0, 4]), [[0], [-2], [-5]])

    def test_of_at(self):
        self.assertEqual(answered([12, 4], [12, 0], tree_call([0]), [12, 4], [12, 0]), [[-8], [-8], [0], [-5], [-5]])


class AfterASecondTree(unittest.TestCase):
    def setUp(self):
        self.line = two_patches()
        for tag in range(4):
            self.line.tag(0, tag)

    def test_there_are_no_tags(self):
        self.assertEqual(self.line.tree(1, 0, 2, 1, 2), [1])
        for tag in range(4):
            self.assertEqual(self.line.at(tag), [-5])
            self.assertEqual(self.line.back(0, tag), [-5])
        self.assertEqual(self.line.everything(), Line(1, 0, 2, 1, 2).everything())

    def test_they_may_be_set_anew(self):
        self.line.tree(1, 3, 0)
        self.assertEqual(self.line.tag(0, 1), [0])
        self.assertEqual(self.line.at(1), [1, 3, 0])
        self.assertEqual(self.line.at(0), [-5])

    def test_a_refused_tree_leaves_them(self):
        before = self.line.everything()
        self.assertEqual(self.line.tree(1, 0, 2, 1), [-1])
        self.assertEqual(self.line.everything(), before)
        self.assertEqual(self.line.at(3), [1, 0, 2, 8, 2])


if __name__ == "__main__":
    unittest.main()
