"""Two steps commuted: (first, second) become (second, first), as they are then, or None if that can't be."""

from patchstores.steps import HUNK, MOVED, SWAP, is_inside, names_of_step, swapped


def have_common_name(first, second):
    names = names_of_step(second)
    return any([name in names for name in names_of_step(first)])


def hunk_shifted(hunk, by):
    return (HUNK, hunk[1], hunk[2] + by, hunk[3], hunk[4])


def hunk_swapped(hunk, swap):
    return (HUNK, hunk[1], hunk[2], swapped(hunk[3], swap), swapped(hunk[4], swap))


def put_inside(step, name):
    return (step[0], name) + step[2:]


def growth(hunk):
    return len(hunk[4]) - len(hunk[3])


# The comparisons are strict: hunks that just touch have no token between them to tell their order by.
def commuted_hunks(first, second):
    if second[2] - first[2] > len(first[4]):
        return (hunk_shifted(second, -growth(first)), first)
    if first[2] - second[2] > len(second[3]):
        return (second, hunk_shifted(first, growth(second)))
    return None


def commuted_swaps(first, second):
    if first[2] in second[2:] or first[3] in second[2:]:
        return None
    return (second, first)


def commuted_in_one_file(first, second):
    if first[0] == HUNK and second[0] == HUNK:
        return commuted_hunks(first, second)
    if first[0] == SWAP and second[0] == SWAP:
        return commuted_swaps(first, second)
    if first[0] == HUNK:
        return (second, hunk_swapped(first, second))
    return (hunk_swapped(second, first), first)


def commuted(first, second):
    if not have_common_name(first, second):
        return (second, first)
    if is_inside(first) and is_inside(second):
        return commuted_in_one_file(first, second)
    if first[0] == MOVED and is_inside(second) and second[1] == first[2]:
        return (put_inside(second, first[1]), first)
    if is_inside(first) and second[0] == MOVED and first[1] == second[1]:
        return (second, put_inside(first, second[2]))
    return None
