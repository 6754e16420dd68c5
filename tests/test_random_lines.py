"""Lines drawn from a fixed seed, held against what the words say of every row, block and store."""

import random
import unittest

from patchstores.commuting import commuted
from patchstores.rows import brought_to_front, joined, names_of_row, one_form, row_turned_round
from patchstores.states import outcome
from patchstores.steps import read_step
from patchstores.trees import applied, fits, read_tree
from tests.line import Line


class Draw:
    def __init__(self, seed):
        self.random = random.Random(seed)

    def tokens(self, count):
        return [self.random.randint(0, 4) for turn in range(count)]

    def tree(self):
        names = sorted(self.random.sample(range(5), self.random.randint(0, 3)))
        numbers = [len(names)]
        for name in names:
            count = self.random.randint(0, self.random.choice((1, 8)))
            numbers += [name, count] + self.tokens(count)
        return numbers

    def hunk(self, tree, name):
        tokens = tree[name]
        place = self.random.randint(0, len(tokens))
        old = list(tokens[place:place + self.random.randint(0, 3)])
        new = self.tokens(self.random.randint(0 if old else 1, 3))
        return [0, name, place, len(old)] + old + [len(new)] + new

    def step(self, tree):
        kind = self.random.choice((0, 0, 0, 1, 2, 3, 4))
        name = self.random.choice(sorted(tree)) if tree else 0
        if kind == 0 and tree:
            return self.hunk(tree, name)
        if kind == 1:
            return [1, name] + self.random.sample(range(5), 2)
        if kind == 4:
            return [4, name, self.random.choice([other for other in range(5) if other != name])]
        return [self.random.choice((2, 3)), self.random.randint(0, 4)]


class RandomLines(unittest.TestCase):
    def test_two_steps_commuted_have_the_same_outcome_and_commute_back(self):
        draw = Draw(1)
        for turn in range(4000):
            tree = read_tree(draw.tree())
            first = read_step(draw.step(tree))
            if not fits(first, tree):
                continue
            between = applied(first, tree)
            second = read_step(draw.step(between))
            pair = commuted(first, second) if fits(second, between) else None
            if pair is not None:
                self.assertTrue(fits(pair[0], tree))
                self.assertTrue(fits(pair[1], applied(pair[0], tree)))
                self.assertEqual(applied(pair[1], applied(pair[0], tree)), applied(second, between))
                self.assertEqual(commuted(pair[0], pair[1]), (first, second))

    def test_lines(self):
        draw = Draw(2)
        for turn in range(60):
            line = Line(*draw.tree())
            for name in draw.random.sample(range(100), 16):
                self.record(line, draw, name)
                if name % 3 == 0:
                    line.share(draw.random.randint(0, 2), draw.random.randint(0, 2))
                for store in range(3):
                    self.check_store(line, store)

    def record(self, line, draw, name):
        store = draw.random.randint(0, 2)
        row = line.keeper.row_in(store)
        numbers = draw.step(outcome(line.keeper.first_tree, row))
        ends = [other for other in line.known(store)[1:] if draw.random.random() < 0.05]
        found = line.record(store, name, ends, *numbers)
        if found[0] >= 0:
            block = line.keeper.recorded[name].block
            self.assertEqual(found[0], len(block) - 1)
            whole = row + [(name, read_step(numbers))]
            needed = [other for other in names_of_row(whole) if other in names_of_row(block)]
            self.assertEqual(brought_to_front(whole, needed)[:len(block)], block)

    def check_store(self, line, store):
        recorded = line.keeper.recorded
        names = line.known(store)[1:]
        idle = line.idle(store)[1::2]
        acting = [name for name in names if name not in idle]
        row = line.keeper.row_in(store)
        self.assertEqual(sorted(names_of_row(row)), acting)
        self.assertEqual(one_form(row), row)
        self.check_it_fits(line.keeper.first_tree, row)
        other = []
        for name in reversed(acting):
            other = joined(other, recorded[name].block)
        self.assertEqual(one_form(other), row)
        numbers = line.conflicts(store)[1:]
        self.assertTrue(all(name in idle for name in numbers))
        pairs = list(zip(numbers[::2], numbers[1::2]))
        self.assertEqual(pairs, sorted(set(pairs)))
        for first, second in pairs:
            self.assertIsNone(joined(recorded[second].block, recorded[first].block))

    def check_it_fits(self, tree, row):
        end = outcome(tree, row)
        at = tree
        for name, step in row + row_turned_round(row):
            self.assertTrue(fits(step, at))
            at = applied(step, at)
        self.assertEqual(at, tree)
        self.assertEqual(outcome(end, row_turned_round(row)), tree)


if __name__ == "__main__":
    unittest.main()
