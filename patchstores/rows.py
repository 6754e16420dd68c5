"""Rows of patches: lists of tuples (name, step)."""

from patchstores.commuting import commuted
from patchstores.steps import turned_round, write_step


def names_of_row(row):
    return [patch[0] for patch in row]


def write_row(row):
    numbers = [len(row)]
    for name, step in row:
        numbers.append(name)
        numbers.extend(write_step(step))
    return numbers


def commuted_patches(first, second):
    steps = commuted(first[1], second[1])
    if steps is None:
        return None
    return ((second[0], steps[0]), (first[0], steps[1]))


# The patch at a place is brought ahead, as far as the place `front`; None if it can't be.
def brought_ahead(row, place, front):
    changed = list(row)
    for behind in range(place, front, -1):
        pair = commuted_patches(changed[behind - 1], changed[behind])
        if pair is None:
            return None
        changed[behind - 1] = pair[0]
        changed[behind] = pair[1]
    return changed


# The named patches stand in front then, in the order of the names; None if that can't be.
def brought_to_front(row, names):
    changed = row
    for front, name in enumerate(names):
        changed = brought_ahead(changed, names_of_row(changed).index(name), front)
        if changed is None:
            return None
    return changed


def with_least_at(row, front):
    best = None
    for place in range(front, len(row)):
        changed = brought_ahead(row, place, front)
        if changed is not None and (best is None or changed[front][0] < best[front][0]):
            best = changed
    return best


def one_form(row):
    changed = row
    for front in range(len(row)):
        changed = with_least_at(changed, front)
    return changed


# The row as it is when the patch has been brought from ahead of it to behind it; None if it can't be.
def without_patch_ahead(patch, row):
    changed = []
    for other in row:
        pair = commuted_patches(patch, other)
        if pair is None:
            return None
        changed.append(pair[0])
        patch = pair[1]
    return changed


# The block of the row's last patch. To leave a patch out commutes it with just those needed patches
# behind it that would pass it on their way to the front, so what is left is what picking puts there.
def picked_last(row):
    block = [row[-1]]
    for patch in reversed(row[:-1]):
        changed = without_patch_ahead(patch, block)
        if changed is None:
            block = [patch] + block
        else:
            block = changed
    return block


def row_turned_round(row):
    return [(name, turned_round(step)) for name, step in reversed(row)]


# The second row as it is behind the first one, if both begin at the same tree; None if they can't be merged.
def merged(first, second):
    row = row_turned_round(first) + second
    for front in range(len(second)):
        row = brought_ahead(row, len(first) + front, front)
        if row is None:
            return None
    return row[:len(second)]


# None if the rows conflict.
def joined(first, second):
    second_names = names_of_row(second)
    common = [name for name in names_of_row(first) if name in second_names]
    first_row = brought_to_front(first, common)
    second_row = brought_to_front(second, common)
    if first_row is None or second_row is None:
        return None
    second_rest = merged(first_row[len(common):], second_row[len(common):])
    if second_rest is None:
        return None
    return first_row + second_rest
