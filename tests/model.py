"""The document's words once more, as literally as can be and apart from the package, to hold lines against.

A step is the list of its numbers, a row a list of pairs (name, step), a tree a dict of lists.
"""


class Refused(Exception):
    pass


def require(holds, number):
    if not holds:
        raise Refused(number)


# Steps

def old_and_new(hunk):
    count = hunk[3]
    return hunk[4:4 + count], hunk[5 + count:]


def make_hunk(file, place, old, new):
    return [0, file, place, len(old), *old, len(new), *new]


def is_step(numbers):
    if not numbers or not all(0 <= number for number in numbers):
        return False
    if numbers[0] == 0:
        if len(numbers) < 5 or numbers[1] > 9 or numbers[2] > 1000 or numbers[3] > 8:
            return False
        old, rest = numbers[4:4 + numbers[3]], numbers[4 + numbers[3]:]
        if len(old) < numbers[3] or not rest or rest[0] > 8 or len(rest) != rest[0] + 1:
            return False
        return len(old + rest) > 1 and max(old + rest[1:]) <= 99
    if numbers[0] == 1:
        return len(numbers) == 4 and numbers[1] <= 9 and max(numbers[2:]) <= 99 and numbers[2] != numbers[3]
    if numbers[0] in (2, 3):
        return len(numbers) == 2 and numbers[1] <= 9
    return numbers[0] == 4 and len(numbers) == 3 and max(numbers[1:]) <= 9 and numbers[1] != numbers[2]


def turn(step):
    if step[0] == 0:
        old, new = old_and_new(step)
        return make_hunk(step[1], step[2], new, old)
    if step[0] == 4:
        return [4, step[2], step[1]]
    return [{1: 1, 2: 3, 3: 2}[step[0]], *step[1:]]


def swap_in(tokens, one, other):
    return [other if token == one else one if token == other else token for token in tokens]


def apply(step, tree):
    """The tree that comes of it, or None if the step doesn't fit."""
    after = {name: list(tokens) for name, tokens in tree.items()}
    kind, file = step[:2]
    if kind == 2:
        if file in tree:
            return None
        after[file] = []
        return after
    if file not in tree:
        return None
    if kind == 0:
        old, new = old_and_new(step)
        begin, end = step[2], step[2] + len(old)
        if begin > len(tree[file]) or tree[file][begin:end] != old:
            return None
        after[file][begin:end] = new
    elif kind == 1:
        after[file] = swap_in(tree[file], *step[2:])
    elif kind == 3:
        if tree[file]:
            return None
        del after[file]
    else:
        if step[2] in tree:
            return None
        after[step[2]] = after.pop(file)
    return after


def names_in(step):
    return set(step[1:3]) if step[0] == 4 else {step[1]}


def commute(p, q):
    """(q', p'), or None."""
    if not names_in(p) & names_in(q):
        return q, p
    kinds = (p[0], q[0])
    if kinds == (0, 0):
        p_old, p_new = old_and_new(p)
        q_old, q_new = old_and_new(q)
        if q[2] > p[2] + len(p_new):
            return make_hunk(q[1], q[2] - len(p_new) + len(p_old), q_old, q_new), p
        if p[2] > q[2] + len(q_old):
            return q, make_hunk(p[1], p[2] - len(q_old) + len(q_new), p_old, p_new)
        return None
    if kinds == (0, 1):
        return q, make_hunk(p[1], p[2], *[swap_in(tokens, *q[2:]) for tokens in old_and_new(p)])
    if kinds == (1, 0):
        return make_hunk(q[1], q[2], *[swap_in(tokens, *p[2:]) for tokens in old_and_new(q)]), p
    if kinds == (1, 1):
        return None if set(p[2:]) & set(q[2:]) else (q, p)
    if p[0] == 4 and q[0] in (0, 1) and q[1] == p[2]:
        return [q[0], p[1], *q[2:]], p
    if p[0] in (0, 1) and q[0] == 4 and p[1] == q[1]:
        return q, [p[0], q[2], *p[2:]]
    return None


# Rows

def pass_by(ahead, behind):
    pair = commute(ahead[1], behind[1])
    return None if pair is None else ((behind[0], pair[0]), (ahead[0], pair[1]))


def to_front(row, place):
    if place == 0:
        return row
    pair = pass_by(row[place - 1], row[place])
    return None if pair is None else to_front(row[:place - 1] + list(pair) + row[place + 1:], place - 1)


def named(row):
    return [name for name, step in row]


def all_to_front(row, names):
    """One after the other, each behind those that are there already."""
    front = []
    for name in names:
        row = to_front(row, named(row).index(name))
        if row is None:
            return None
        front, row = front + row[:1], row[1:]
    return front + row


def one_form(row):
    if not row:
        return []
    fronts = [to_front(row, place) for place in range(len(row))]
    best = min((front for front in fronts if front is not None), key=lambda front: front[0][0])
    return best[:1] + one_form(best[1:])


def needs_of_last(row):
    """By names, as they stand."""
    needed = row[-1:]
    for patch in row[-2::-1]:
        passing, passed = patch, []
        for other in needed:
            pair = pass_by(passing, other)
            if pair is None:
                break
            passed.append(pair[0])
            passing = pair[1]
        needed = passed if len(passed) == len(needed) else [patch] + needed
    return named(needed)


def block_of_last(row):
    names = needs_of_last(row)
    return all_to_front(row, names)[:len(names)]


def join(first, second):
    common = [name for name in named(first) if name in named(second)]
    first, second = all_to_front(first, common), all_to_front(second, common)
    if first is None or second is None:
        return None
    assert first[:len(common)] == second[:len(common)]
    back = [(name, turn(step)) for name, step in reversed(first[len(common):])]
    rest = []
    for patch in second[len(common):]:
        moved = to_front(back + [patch], len(back))
        if moved is None:
            return None
        rest, back = rest + moved[:1], moved[1:]
    return first + rest


# The object

class Model:
    def __init__(self):
        self.first = None
        self.block = {}

    def row_of(self, names):
        row = []
        for name in self.acting(names):
            row = join(row, self.block[name])
        return one_form(row)

    def tree_of(self, names):
        tree = self.first
        for name, step in self.row_of(names):
            tree = apply(step, tree)
        return tree

    def needs(self, name):
        return set(named(self.block[name])) - {name}

    def live(self, names):
        ended = {end for name in names for end in self.ends[name]}
        return sorted(name for name in names if name not in ended and not self.needs(name) & ended)

    def pairs(self, names):
        live = self.live(names)
        return [(one, other) for one in live for other in live
                if one < other and join(self.block[one], self.block[other]) is None]

    def acting(self, names):
        conflicting = {name for pair in self.pairs(names) for name in pair}
        return [name for name in self.live(names) if name not in conflicting]

    def ask(self, call, *told):
        try:
            if call != "tree":
                require(self.first is not None, -8)
            return getattr(self, call)(*told)
        except Refused as refusal:
            return [refusal.args[0]]

    def asked(self, *stores):
        require(all(store in (0, 1, 2) for store in stores), -2)
        return [self.stores[store] for store in stores]

    def tree(self, numbers):
        tree, rest = {}, numbers[1:]
        require(numbers and 0 <= numbers[0] <= 6, -1)
        for turn_number in range(numbers[0]):
            require(len(rest) >= 2 and max([-1, *tree]) < rest[0] <= 9 and 0 <= rest[1] <= 12, -1)
            tree[rest[0]] = rest[2:2 + rest[1]]
            require(len(tree[rest[0]]) == rest[1] and all(0 <= token <= 99 for token in tree[rest[0]]), -1)
            rest = rest[2 + rest[1]:]
        require(not rest, -1)
        self.first, self.block, self.ends, self.tags = tree, {}, {}, {}
        self.stores = [set(), set(), set()]
        return [len(tree)]

    def record(self, store, name, ends, step):
        names = self.asked(store)[0]
        require(0 <= name <= 99 and name not in self.block, -3)
        require(is_step(step), -1)
        require(len(self.block) < 12, -6)
        require(set(ends) <= names and len(set(ends)) == len(ends), -5)
        require(apply(step, self.tree_of(names)) is not None, -4)
        block = block_of_last(self.row_of(names) + [(name, step)])
        require(not set(ends) & set(named(block)), -7)
        self.block[name], self.ends[name] = block, ends
        names.add(name)
        return [len(block) - 1]

    def known(self, store):
        names = self.asked(store)[0]
        return [len(names), *sorted(names)]

    def row_numbers(self, row):
        return [len(row)] + [number for name, step in row for number in (name, *step)]

    def tree_numbers(self, tree):
        files = [number for name in sorted(tree) for number in (name, len(tree[name]), *tree[name])]
        return [len(tree), *files]

    def row(self, store):
        return self.row_numbers(self.row_of(self.asked(store)[0]))

    def outcome(self, store):
        return self.tree_numbers(self.tree_of(self.asked(store)[0]))

    def conflicts(self, store):
        pairs = self.pairs(self.asked(store)[0])
        return [len(pairs)] + [name for pair in sorted(pairs) for name in pair]

    def idle(self, store):
        names = self.asked(store)[0]
        idle = sorted(names - set(self.acting(names)))
        live = self.live(names)
        return [len(idle)] + [number for name in idle for number in (name, 2 if name in live else 1)]

    def block_numbers(self, name):
        require(name in self.block, -3)
        return self.row_numbers(self.block[name]) + [len(self.ends[name]), *self.ends[name]]

    def bring(self, store, source, name):
        first, second = self.asked(store, source)
        require(name in second, -3)
        new = ({name} | self.needs(name)) - first
        first |= new
        return [len(new)]

    def pull(self, store, source):
        first, second = self.asked(store, source)
        new = second - first
        first |= new
        return [len(new)]

    def forget(self, store, name):
        names = self.asked(store)[0]
        require(name in names, -3)
        lost = {other for other in names if other == name or name in self.needs(other)}
        names -= lost
        return [len(lost)]

    def tag(self, store, tag):
        names = self.asked(store)[0]
        require(tag in (0, 1, 2, 3), -5)
        self.tags[tag] = frozenset(names)
        return [len(names)]

    def at(self, tag):
        require(tag in self.tags, -5)
        return self.tree_numbers(self.tree_of(self.tags[tag]))

    def back(self, store, tag):
        self.asked(store)
        require(tag in self.tags, -5)
        self.stores[store] = set(self.tags[tag])
        return [len(self.tags[tag])]

    def alike(self, store, other):
        first, second = self.asked(store, other)
        return [int(first == second), int(self.row_of(first) == self.row_of(second))]
