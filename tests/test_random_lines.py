"""Lines drawn from a fixed seed, held against what the words say of every row, block and store, and against a model."""

import random
import unittest

from patchstores.commuting import commuted
from patchstores.rows import brought_to_front, joined, names_of_row, one_form, row_turned_round
from patchstores.states import outcome
from patchstores.steps import read_step
from patchstores.trees import applied, fits, read_tree
from tests.line import Line, answered, record_call, tree_call
from tests.model import Model

LINES_HELD_AGAINST_THE_MODEL = 200


class Draw:
    def __init__(self, seed):
        self.random = random.Random(seed)

    def tokens(self, count):
        return [self.random.randint(0, 4) for turn in range(count)]

    def tree(self):
        names = sorted(self.random.sample(range(5), self.random.randint(0, 3)))
        numbers = [len(names)]
        for name in names:
            count = self.random.randint(0, self.random.choice((1, 8)))
            numbers += [name, count] + self.tokens(count)
        return numbers

    def hunk(self, tree, name):
        tokens = tree[name]
        place = self.random.randint(0, len(tokens))
        old = list(tokens[place:place + self.random.randint(0, 3)])
        new = self.tokens(self.random.randint(0 if old else 1, 3))
        return [0, name, place, len(old)] + old + [len(new)] + new

    def step(self, tree):
        kind = self.random.choice((0, 0, 0, 1, 2, 3, 4))
        name = self.random.choice(sorted(tree)) if tree else 0
        if kind == 0 and tree:
            return self.hunk(tree, name)
        if kind == 1:
            return [1, name] + self.random.sample(range(5), 2)
        if kind == 4:
            return [4, name, self.random.choice([other for other in range(5) if other != name])]
        return [self.random.choice((2, 3)), self.random.randint(0, 4)]


# The numbers that a call has, in order: a store, a tag, or a patch's name.
CALLS = {
    "known": (2, "s"), "row": (3, "s"), "outcome": (4, "s"), "conflicts": (5, "s"), "idle": (6, "s"),
    "block_numbers": (7, "n"), "bring": (8, "ssn"), "pull": (9, "ss"), "forget": (10, "sn"), "tag": (11, "st"),
    "at": (12, "t"), "back": (13, "st"), "alike": (14, "ss"),
}


class DrawnLine:
    """A line of all the calls, with what the model answers to each."""

    def __init__(self, draw):
        self.random = draw.random
        self.draw = draw
        self.model = Model()
        self.calls = []
        self.expected = []

    def number(self, kind):
        wrong = self.random.random() < 0.02
        if kind == "s":
            return self.random.choice((-1, 3)) if wrong else self.random.randint(0, 2)
        if kind == "t":
            return self.random.choice((-1, 3, 4)) if wrong else self.random.randint(0, 1)
        if wrong or not self.model.block:
            return self.random.choice((-1, 0, 100))
        return self.random.choice(sorted(self.model.block))

    def names_of(self, store):
        return self.model.stores[store] if self.model.first is not None and 0 <= store <= 2 else set()

    def add(self, numbers, name, *told):
        self.calls.append(numbers)
        self.expected.append(self.model.ask(name, *told))

    def add_call(self, name, *told):
        self.add([CALLS[name][0], *told], name, *told)

    def add_tree(self, right):
        numbers = self.draw.tree()
        if not right:
            numbers = numbers[:-1]
        self.add(tree_call(numbers), "tree", numbers)

    def add_record(self):
        store = self.number("s")
        names = self.names_of(store)
        step = self.draw.step(self.model.tree_of(names) if self.model.first is not None else {})
        if self.random.random() < 0.03:
            step = step[:-1]
        ends = [name for name in sorted(names) if self.random.random() < 0.1]
        self.random.shuffle(ends)
        if self.random.random() < 0.03:
            ends.append(self.number("n"))
        name = self.number("n") if self.random.random() < 0.03 else self.random.randint(0, 99)
        self.add(record_call(store, name, ends, step), "record", store, name, ends, step)

    def add_other(self):
        name = self.random.choice(sorted(CALLS) + ["pull"] * 6 + ["bring"] * 6 + ["forget", "tag", "back"])
        told = [self.number(kind) for kind in CALLS[name][1]]
        # Most names are drawn from the store that is asked for them, or bring and forget would mostly refuse.
        there = sorted(self.names_of(told[-2])) if len(told) > 1 and CALLS[name][1][-1] == "n" else []
        if there and self.random.random() < 0.9:
            told[-1] = self.random.choice(there)
        self.add_call(name, *told)

    def grow(self):
        if self.random.random() < 0.98:
            self.add_tree(True)
        while len(self.calls) < 24:
            chance = self.random.random()
            if chance < 0.01:
                self.add_tree(self.random.random() < 0.3)
            elif chance < 0.55:
                self.add_record()
            else:
                self.add_other()
        for store in range(3):
            for name in ("known", "row", "outcome", "conflicts", "idle"):
                self.add_call(name, store)
        self.add_call("alike", 0, 1)


class RandomLines(unittest.TestCase):
    def test_two_steps_commuted_have_the_same_outcome_and_commute_back(self):
        draw = Draw(1)
        for turn in range(4000):
            tree = read_tree(draw.tree())
            first = read_step(draw.step(tree))
            if not fits(first, tree):
                continue
            between = applied(first, tree)
            second = read_step(draw.step(between))
            pair = commuted(first, second) if fits(second, between) else None
            if pair is not None:
                self.assertTrue(fits(pair[0], tree))
                self.assertTrue(fits(pair[1], applied(pair[0], tree)))
                self.assertEqual(applied(pair[1], applied(pair[0], tree)), applied(second, between))
                self.assertEqual(commuted(pair[0], pair[1]), (first, second))

    def test_lines(self):
        draw = Draw(2)
        for turn in range(60):
            line = Line(*draw.tree())
            for name in draw.random.sample(range(100), 16):
                self.record(line, draw, name)
                if name % 3 == 0:
                    line.pull(draw.random.randint(0, 2), draw.random.randint(0, 2))
                for store in range(3):
                    self.check_store(line, store)

    def test_lines_of_all_calls_are_as_the_model_tells(self):
        draw = Draw(3)
        for turn in range(LINES_HELD_AGAINST_THE_MODEL):
            line = DrawnLine(draw)
            line.grow()
            self.assertEqual(answered(*line.calls), line.expected, line.calls)

    def record(self, line, draw, name):
        store = draw.random.randint(0, 2)
        row = line.keeper.row_in(store)
        numbers = draw.step(outcome(line.keeper.first_tree, row))
        ends = [other for other in line.known(store)[1:] if draw.random.random() < 0.05]
        found = line.record(store, name, ends, *numbers)
        if found[0] >= 0:
            block = line.keeper.recorded[name].block
            self.assertEqual(found[0], len(block) - 1)
            whole = row + [(name, read_step(numbers))]
            needed = [other for other in names_of_row(whole) if other in names_of_row(block)]
            self.assertEqual(brought_to_front(whole, needed)[:len(block)], block)

    def check_store(self, line, store):
        recorded = line.keeper.recorded
        names = line.known(store)[1:]
        idle = line.idle(store)[1::2]
        acting = [name for name in names if name not in idle]
        row = line.keeper.row_in(store)
        self.assertEqual(sorted(names_of_row(row)), acting)
        self.assertEqual(one_form(row), row)
        self.check_it_fits(line.keeper.first_tree, row)
        other = []
        for name in reversed(acting):
            other = joined(other, recorded[name].block)
        self.assertEqual(one_form(other), row)
        numbers = line.conflicts(store)[1:]
        self.assertTrue(all(name in idle for name in numbers))
        pairs = list(zip(numbers[::2], numbers[1::2]))
        self.assertEqual(pairs, sorted(set(pairs)))
        for first, second in pairs:
            self.assertIsNone(joined(recorded[second].block, recorded[first].block))

    def check_it_fits(self, tree, row):
        end = outcome(tree, row)
        at = tree
        for name, step in row + row_turned_round(row):
            self.assertTrue(fits(step, at))
            at = applied(step, at)
        self.assertEqual(at, tree)
        self.assertEqual(outcome(end, row_turned_round(row)), tree)


if __name__ == "__main__":
    unittest.main()
