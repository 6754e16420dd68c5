"""Steps: read from numbers, written as numbers, turned round.

A step is a tuple that begins with its kind:
(HUNK, file, place, old, new), (SWAP, file, token, other), (ADDED, file), (REMOVED, file), (MOVED, from, to).
"""

from patchstores.reading import is_file_name, is_token, read_tokens, write_tokens

HUNK = 0
SWAP = 1
ADDED = 2
REMOVED = 3
MOVED = 4

MOST_PLACE = 1000
MOST_HUNK_TOKENS = 8


def read_hunk(numbers):
    if len(numbers) < 3 or not is_file_name(numbers[1]) or not 0 <= numbers[2] <= MOST_PLACE:
        return None
    old = read_tokens(numbers, 3, MOST_HUNK_TOKENS)
    if old is None:
        return None
    new = read_tokens(numbers, 4 + len(old), MOST_HUNK_TOKENS)
    if new is None:
        return None
    if len(numbers) != 5 + len(old) + len(new) or len(old) + len(new) == 0:
        return None
    return (HUNK, numbers[1], numbers[2], old, new)


def read_swap(numbers):
    if len(numbers) != 4 or not is_file_name(numbers[1]):
        return None
    if not is_token(numbers[2]) or not is_token(numbers[3]) or numbers[2] == numbers[3]:
        return None
    return tuple(numbers)


def read_added_or_removed(numbers):
    if len(numbers) != 2 or not is_file_name(numbers[1]):
        return None
    return tuple(numbers)


def read_moved(numbers):
    if len(numbers) != 3 or not is_file_name(numbers[1]) or not is_file_name(numbers[2]):
        return None
    if numbers[1] == numbers[2]:
        return None
    return tuple(numbers)


# None if the list isn't whole a step.
def read_step(numbers):
    if not numbers:
        return None
    kind = numbers[0]
    if kind == HUNK:
        return read_hunk(numbers)
    if kind == SWAP:
        return read_swap(numbers)
    if kind == ADDED or kind == REMOVED:
        return read_added_or_removed(numbers)
    if kind == MOVED:
        return read_moved(numbers)
    return None


def write_step(step):
    if step[0] == HUNK:
        return list(step[:3]) + write_tokens(step[3]) + write_tokens(step[4])
    return list(step)


def turned_round(step):
    kind = step[0]
    if kind == HUNK:
        return (HUNK, step[1], step[2], step[4], step[3])
    if kind == ADDED:
        return (REMOVED, step[1])
    if kind == REMOVED:
        return (ADDED, step[1])
    if kind == MOVED:
        return (MOVED, step[2], step[1])
    return step


def is_inside(step):
    return step[0] == HUNK or step[0] == SWAP


def names_of_step(step):
    if step[0] == MOVED:
        return [step[1], step[2]]
    return [step[1]]


def swapped(tokens, swap):
    turned = {swap[2]: swap[3], swap[3]: swap[2]}
    return tuple([turned.get(token, token) for token in tokens])
