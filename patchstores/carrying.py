"""Patches carried from store to store, forgotten and tagged, and stores held against one another."""

from patchstores.keeping import NAME_REFUSED, NO_TREE, store_refusal
from patchstores.rows import names_of_row
from patchstores.states import outcome, store_row
from patchstores.trees import write_tree

MOST_TAG = 3

TAG_REFUSED = -5


# None if both stores may be asked.
def stores_refusal(keeper, store, other):
    refusal = store_refusal(keeper, store)
    if refusal is not None:
        return refusal
    return store_refusal(keeper, other)


def bring_patch(keeper, store, source, name):
    refusal = stores_refusal(keeper, store, source)
    if refusal is not None:
        return [refusal]
    if name not in keeper.stores[source]:
        return [NAME_REFUSED]
    return [keeper.take_in(store, names_of_row(keeper.recorded[name].block))]


def pull_patches(keeper, store, source):
    refusal = stores_refusal(keeper, store, source)
    if refusal is not None:
        return [refusal]
    return [keeper.take_in(store, keeper.names_in(source))]


# A block has the patch itself and all that it needs, so the forgotten patch is found by its own block too.
def names_that_need(keeper, store, name):
    return [other for other in keeper.names_in(store) if name in names_of_row(keeper.recorded[other].block)]


def forget_patch(keeper, store, name):
    refusal = store_refusal(keeper, store)
    if refusal is not None:
        return [refusal]
    if name not in keeper.stores[store]:
        return [NAME_REFUSED]
    lost = names_that_need(keeper, store, name)
    keeper.leave_out(store, lost)
    return [len(lost)]


def set_tag(keeper, store, tag):
    refusal = store_refusal(keeper, store)
    if refusal is not None:
        return [refusal]
    if not 0 <= tag <= MOST_TAG:
        return [TAG_REFUSED]
    keeper.tags[tag] = keeper.names_in(store)
    return [len(keeper.tags[tag])]


def tell_tagged(keeper, tag):
    if keeper.first_tree is None:
        return [NO_TREE]
    if tag not in keeper.tags:
        return [TAG_REFUSED]
    row = store_row(keeper.recorded, keeper.tags[tag])
    return write_tree(outcome(keeper.first_tree, row))


def go_back(keeper, store, tag):
    refusal = store_refusal(keeper, store)
    if refusal is not None:
        return [refusal]
    if tag not in keeper.tags:
        return [TAG_REFUSED]
    keeper.leave_out(store, keeper.names_in(store))
    return [keeper.take_in(store, keeper.tags[tag])]


def tell_alike(keeper, store, other):
    refusal = stores_refusal(keeper, store, other)
    if refusal is not None:
        return [refusal]
    same_patches = 1 if keeper.names_in(store) == keeper.names_in(other) else 0
    same_row = 1 if keeper.row_in(store) == keeper.row_in(other) else 0
    return [same_patches, same_row]
