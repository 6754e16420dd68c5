"""Trees: dicts from a file's name to the tuple of its tokens."""

from patchstores.reading import is_file_name, read_tokens, write_tokens
from patchstores.steps import ADDED, HUNK, MOVED, REMOVED, SWAP, swapped

MOST_FILES = 6
MOST_TREE_TOKENS = 12


# None if the list isn't whole a tree of the first tree's size.
def read_tree(numbers):
    if not numbers or not 0 <= numbers[0] <= MOST_FILES:
        return None
    tree = {}
    last = -1
    place = 1
    for file_number in range(numbers[0]):
        if place >= len(numbers) or not is_file_name(numbers[place]) or numbers[place] <= last:
            return None
        tokens = read_tokens(numbers, place + 1, MOST_TREE_TOKENS)
        if tokens is None:
            return None
        last = numbers[place]
        tree[last] = tokens
        place = place + 2 + len(tokens)
    if place != len(numbers):
        return None
    return tree


def write_tree(tree):
    numbers = [len(tree)]
    for name in sorted(tree):
        numbers.append(name)
        numbers.extend(write_tokens(tree[name]))
    return numbers


def hunk_fits(hunk, tokens):
    place = hunk[2]
    old = hunk[3]
    return place <= len(tokens) and tokens[place:place + len(old)] == old


def fits(step, tree):
    kind = step[0]
    if kind == ADDED:
        return step[1] not in tree
    if step[1] not in tree:
        return False
    if kind == HUNK:
        return hunk_fits(step, tree[step[1]])
    if kind == REMOVED:
        return len(tree[step[1]]) == 0
    if kind == MOVED:
        return step[2] not in tree
    return True


def with_hunk(tokens, hunk):
    place = hunk[2]
    return tokens[:place] + hunk[4] + tokens[place + len(hunk[3]):]


def applied(step, tree):
    changed = dict(tree)
    kind = step[0]
    name = step[1]
    if kind == HUNK:
        changed[name] = with_hunk(tree[name], step)
    if kind == SWAP:
        changed[name] = swapped(tree[name], step)
    if kind == ADDED:
        changed[name] = ()
    if kind == REMOVED:
        changed.pop(name)
    if kind == MOVED:
        changed[step[2]] = changed.pop(name)
    return changed
