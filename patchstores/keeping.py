"""The one object of a line of calls: its tree, its patches, and what is told of one store or patch."""

from patchstores.rows import names_of_row, picked_last, write_row
from patchstores.states import Recorded, acting_names, conflicting_pairs, live_names, outcome, store_row
from patchstores.steps import read_step
from patchstores.trees import fits, read_tree, write_tree

STORES = 3
MOST_RECORDED = 12
MOST_PATCH_NAME = 99

NOT_WHOLE = -1
NO_SUCH_STORE = -2
NAME_REFUSED = -3
DOES_NOT_FIT = -4
ENDS_REFUSED = -5
TOO_MANY_PATCHES = -6
ENDS_ITS_OWN_NEED = -7
NO_TREE = -8

NOT_LIVE = 1
IN_CONFLICT = 2


class Keeper:
    def __init__(self):
        self.begin(None)

    def begin(self, first_tree):
        self.first_tree = first_tree
        self.recorded = {}
        self.stores = [{} for store in range(STORES)]
        self.tags = {}

    def names_in(self, store):
        return sorted(self.stores[store])

    def row_in(self, store):
        return store_row(self.recorded, self.names_in(store))

    # How many of them are new there.
    def take_in(self, store, names):
        before = len(self.stores[store])
        for name in names:
            self.stores[store][name] = True
        return len(self.stores[store]) - before

    def leave_out(self, store, names):
        for name in names:
            self.stores[store].pop(name)

    def keep(self, store, name, block, ends):
        self.recorded[name] = Recorded(block, ends)
        self.take_in(store, [name])


# None if the store may be asked.
def store_refusal(keeper, store):
    if keeper.first_tree is None:
        return NO_TREE
    if not 0 <= store < STORES:
        return NO_SUCH_STORE
    return None


def begin_tree(keeper, numbers):
    tree = read_tree(numbers)
    if tree is None:
        return [NOT_WHOLE]
    keeper.begin(tree)
    return [len(tree)]


def ends_are_right(keeper, store, ends):
    for place, end in enumerate(ends):
        if end not in keeper.stores[store] or end in ends[:place]:
            return False
    return True


# None if what's told alone, without the store's row, is no reason to refuse.
def record_refusal(keeper, store, name, ends, step):
    refusal = store_refusal(keeper, store)
    if refusal is not None:
        return refusal
    if not 0 <= name <= MOST_PATCH_NAME or name in keeper.recorded:
        return NAME_REFUSED
    if step is None:
        return NOT_WHOLE
    if len(keeper.recorded) >= MOST_RECORDED:
        return TOO_MANY_PATCHES
    if not ends_are_right(keeper, store, ends):
        return ENDS_REFUSED
    return None


def record_patch(keeper, store, name, ends, numbers):
    step = read_step(numbers)
    refusal = record_refusal(keeper, store, name, ends, step)
    if refusal is not None:
        return [refusal]
    row = keeper.row_in(store)
    if not fits(step, outcome(keeper.first_tree, row)):
        return [DOES_NOT_FIT]
    block = picked_last(row + [(name, step)])
    block_names = names_of_row(block)
    if any([end in block_names for end in ends]):
        return [ENDS_ITS_OWN_NEED]
    keeper.keep(store, name, block, ends)
    return [len(block) - 1]


def tell_known(keeper, store):
    names = keeper.names_in(store)
    return [len(names)] + names


def tell_row(keeper, store):
    return write_row(keeper.row_in(store))


def tell_outcome(keeper, store):
    return write_tree(outcome(keeper.first_tree, keeper.row_in(store)))


def tell_conflicts(keeper, store):
    pairs = conflicting_pairs(keeper.recorded, keeper.names_in(store))
    numbers = [len(pairs)]
    for pair in pairs:
        numbers.extend(pair)
    return numbers


def tell_idle(keeper, store):
    names = keeper.names_in(store)
    live = live_names(keeper.recorded, names)
    acting = acting_names(keeper.recorded, names)
    idle = [name for name in names if name not in acting]
    numbers = [len(idle)]
    for name in idle:
        numbers.append(name)
        numbers.append(IN_CONFLICT if name in live else NOT_LIVE)
    return numbers


def tell_block(keeper, name):
    if keeper.first_tree is None:
        return [NO_TREE]
    if name not in keeper.recorded:
        return [NAME_REFUSED]
    patch = keeper.recorded[name]
    return write_row(patch.block) + [len(patch.ends)] + patch.ends
