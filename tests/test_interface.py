"""answers(calls): what it is handed, what it gives back, and that it keeps nothing."""

import unittest

from patchstores.stores import UnknownCall, answers
from tests.line import record_call, split, tree_call

LINE = (
    tree_call([1, 0, 3, 1, 2, 3])
    + record_call(0, 7, [], [0, 0, 0, 1, 1, 0])
    + record_call(0, 8, [7], [0, 0, 1, 1, 3, 1, 4])
    + [2, 0, 3, 0, 4, 0, 5, 0, 6, 0, 7, 8, 2, 9]
)

ALL_CALLS = (
    tree_call([1, 0, 3, 1, 2, 3])
    + record_call(0, 7, [], [0, 0, 0, 1, 1, 0])
    + record_call(0, 8, [7], [0, 0, 1, 1, 3, 1, 4])
    + record_call(1, 9, [], [0, 0, 2, 1, 3, 1, 5])
    + [8, 2, 0, 8, 9, 2, 1, 5, 2, 6, 2, 3, 2, 4, 2, 11, 2, 0, 10, 2, 9, 14, 2, 0, 13, 1, 0, 12, 0, 2, 1, 7, 9]
    + [8, 2, 3, 8, 9, 0, -1, 10, 2, 9, 11, 0, 4, 12, 1, 13, 0, 3, 14, 3, 3]
)


class Unchangeable(list):
    """A list that can only be read."""

    def refuse(self, *told, **named):
        raise AssertionError("what is handed in is not changed")

    __setitem__ = __delitem__ = __iadd__ = __imul__ = refuse
    append = clear = extend = insert = pop = remove = reverse = sort = refuse


class Interface(unittest.TestCase):
    def test_each_answer_has_its_count_before_it(self):
        self.assertEqual(answers(LINE), (
            [1, 1, 1, 0, 1, 0]
            + [3, 2, 7, 8]
            + [9, 1, 8, 0, 0, 2, 1, 3, 1, 4]
            + [6, 1, 0, 3, 1, 2, 4]
            + [1, 0]
            + [3, 1, 7, 1]
            + [11, 1, 8, 0, 0, 2, 1, 3, 1, 4, 1, 7]
            + [1, -2]
        ))

    def test_every_call_in_one_line(self):
        self.assertEqual(answers(ALL_CALLS), (
            [1, 1, 1, 0, 1, 0, 1, 0]
            + [1, 1, 1, 1, 3, 1, 8, 9, 5, 2, 8, 2, 9, 2, 1, 0, 6, 1, 0, 3, 1, 2, 3]
            + [1, 2, 1, 1, 2, 0, 1, 1, 2, 6, 1, 0, 3, 1, 2, 3, 3, 2, 8, 9]
            + [10, 1, 9, 0, 0, 2, 1, 3, 1, 5, 0]
            + [1, -2, 1, -2, 1, -3, 1, -5, 1, -5, 1, -5, 1, -2]
        ))

    def test_one_call_alone(self):
        self.assertEqual(answers([0, 0]), [1, -1])
        self.assertEqual(answers([0, 1, 0]), [1, 0])
        self.assertEqual(answers([2, 0]), [1, -8])
        self.assertEqual(answers([7, 0]), [1, -8])

    def test_forty_calls(self):
        calls = tree_call([0])
        for name in range(12):
            calls += record_call(name % 3, name, [], [2, name % 10])
        for turn in range(27):
            calls += [2 + turn % 5, turn % 4] if turn % 2 else [9, turn % 3, (turn + 1) % 3]
        found = answers(calls)
        self.assertEqual(len(split(found)), 40)
        self.assertEqual(found[:26], [1, 0] + [1, 0] * 12)
        self.assertTrue(all(isinstance(number, int) for number in found))
        self.assertFalse(any(isinstance(number, bool) for number in found))

    def test_refused_rows_are_read_over_whole(self):
        calls = [0, 3, 2, 2, 2] + record_call(0, 1, [2] * 12, [3] * 30) + [0, 1, 0, 2, 0]
        self.assertEqual(answers(calls), [1, -1, 1, -8, 1, 0, 1, 0])

    def test_what_is_handed_in_stays_as_it_was(self):
        for line in (LINE, ALL_CALLS):
            calls = list(line)
            answers(calls)
            self.assertEqual(calls, line)

    def test_what_is_handed_in_is_not_changed_for_a_while_either(self):
        for line in (LINE, ALL_CALLS):
            self.assertEqual(answers(Unchangeable(line)), answers(line))

    def test_twice_gives_the_same(self):
        for line in (LINE, ALL_CALLS):
            first = answers(line)
            self.assertEqual(answers(line), first)
            first.append(5)
            self.assertEqual(answers(line), first[:-1])

    def test_nothing_is_kept_from_one_time_to_the_next(self):
        answers(ALL_CALLS)
        self.assertEqual(answers([2, 0, 7, 7, 12, 0]), [1, -8, 1, -8, 1, -8])
        self.assertEqual(answers([0, 1, 0, 2, 0, 7, 7, 12, 0]), [1, 0, 1, 0, 1, -3, 1, -5])

    def test_a_number_of_no_call(self):
        with self.assertRaises(UnknownCall):
            answers([15, 0])


if __name__ == "__main__":
    unittest.main()
