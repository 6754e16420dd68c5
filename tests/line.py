"""Calls written with names, for the tests."""

import copy

from patchstores.keeping import Keeper
from patchstores.stores import answers, answers_from


def tree_call(numbers):
    return [0, len(numbers), *numbers]


def record_call(store, name, ends, step):
    return [1, store, name, len(ends), *ends, len(step), *step]


def split(numbers):
    """The answers of a line, one list each."""
    found = []
    place = 0
    while place < len(numbers):
        count = numbers[place]
        found.append(numbers[place + 1:place + 1 + count])
        place += 1 + count
    assert place == len(numbers)
    return found


def answered(*calls):
    """The answers of one whole line through the interface."""
    return split(answers([number for call in calls for number in call]))


class Line:
    """One object that is asked call by call."""

    def __init__(self, *tree):
        self.keeper = Keeper()
        if tree:
            assert self.tree(*tree)[0] >= 0

    def ask(self, call):
        found = split(answers_from(self.keeper, call))
        assert len(found) == 1
        return found[0]

    def tree(self, *numbers):
        return self.ask(tree_call(numbers))

    def record(self, store, name, ends, *step):
        return self.ask(record_call(store, name, ends, step))

    def known(self, store):
        return self.ask([2, store])

    def row(self, store):
        return self.ask([3, store])

    def outcome(self, store):
        return self.ask([4, store])

    def conflicts(self, store):
        return self.ask([5, store])

    def idle(self, store):
        return self.ask([6, store])

    def block(self, name):
        return self.ask([7, name])

    def bring(self, store, source, name):
        return self.ask([8, store, source, name])

    def pull(self, store, source):
        return self.ask([9, store, source])

    def forget(self, store, name):
        return self.ask([10, store, name])

    def tag(self, store, tag):
        return self.ask([11, store, tag])

    def at(self, tag):
        return self.ask([12, tag])

    def back(self, store, tag):
        return self.ask([13, store, tag])

    def alike(self, store, other):
        return self.ask([14, store, other])

    def state(self, store):
        """known, row, outcome, conflicts and idle of one store."""
        return [self.ask([call, store]) for call in range(2, 7)]

    def tagged(self, tag):
        """What a tag holds, seen in a copy of the object that goes back to it."""
        other = Line()
        other.keeper = copy.deepcopy(self.keeper)
        return [self.at(tag), other.back(0, tag), other.state(0)]

    def everything(self):
        told = [self.state(store) for store in range(3)]
        told += [self.block(name) for name in range(100)]
        return told + [self.tagged(tag) for tag in range(4)]
