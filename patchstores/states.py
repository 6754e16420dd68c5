"""What follows from a store's patches: which are live, conflict and act, its row and its outcome.

`recorded` is a dict from a patch's name to what was recorded of it; `names` are a store's patches, rising.
"""

from patchstores.rows import joined, names_of_row, one_form
from patchstores.trees import applied


class Recorded:
    def __init__(self, block, ends):
        self.block = block
        self.ends = ends


def ended_names(recorded, names):
    ended = {}
    for name in names:
        for end in recorded[name].ends:
            ended[end] = True
    return ended


# A block has the patch itself and all that it needs, so one look over it answers both parts of being live.
def live_names(recorded, names):
    ended = ended_names(recorded, names)
    live = []
    for name in names:
        if not any([other in ended for other in names_of_row(recorded[name].block)]):
            live.append(name)
    return live


def conflicting_pairs(recorded, names):
    live = live_names(recorded, names)
    pairs = []
    for place, name in enumerate(live):
        for other in live[place + 1:]:
            if joined(recorded[name].block, recorded[other].block) is None:
                pairs.append((name, other))
    return pairs


def acting_names(recorded, names):
    conflicting = {}
    for name, other in conflicting_pairs(recorded, names):
        conflicting[name] = True
        conflicting[other] = True
    return [name for name in live_names(recorded, names) if name not in conflicting]


# Rows that don't conflict two by two don't conflict all together, so each joining here can be done.
def store_row(recorded, names):
    row = []
    for name in acting_names(recorded, names):
        row = joined(row, recorded[name].block)
    return one_form(row)


def outcome(tree, row):
    for name, step in row:
        tree = applied(step, tree)
    return tree
