"""Calls as numbers: each is read, carried out on one object, and its answer written behind the others."""

from patchstores.carrying import bring_patch, forget_patch, go_back, pull_patches, set_tag, tell_alike, tell_tagged
from patchstores.keeping import Keeper, begin_tree, record_patch, store_refusal
from patchstores.keeping import tell_block, tell_conflicts, tell_idle, tell_known, tell_outcome, tell_row

TREE = 0
RECORD = 1
KNOWN = 2
ROW = 3
OUTCOME = 4
CONFLICTS = 5
IDLE = 6
BLOCK = 7
BRING = 8
PULL = 9
FORGET = 10
TAG = 11
AT = 12
BACK = 13
ALIKE = 14


class UnknownCall(ValueError):
    pass


class Reader:
    def __init__(self, numbers):
        self.numbers = numbers
        self.place = 0

    def has_more(self):
        return self.place < len(self.numbers)

    def take(self):
        number = self.numbers[self.place]
        self.place = self.place + 1
        return number

    def take_list(self):
        count = self.take()
        taken = self.numbers[self.place:self.place + count]
        self.place = self.place + count
        return taken


def answer_record(keeper, reader):
    store = reader.take()
    name = reader.take()
    ends = reader.take_list()
    step = reader.take_list()
    return record_patch(keeper, store, name, ends, step)


def answer_of_store(keeper, call, store):
    refusal = store_refusal(keeper, store)
    if refusal is not None:
        return [refusal]
    if call == KNOWN:
        return tell_known(keeper, store)
    if call == ROW:
        return tell_row(keeper, store)
    if call == OUTCOME:
        return tell_outcome(keeper, store)
    if call == CONFLICTS:
        return tell_conflicts(keeper, store)
    return tell_idle(keeper, store)


def answer_bring(keeper, reader):
    store = reader.take()
    source = reader.take()
    name = reader.take()
    return bring_patch(keeper, store, source, name)


# What the second number is, a store, a patch or a tag, only the call tells.
def answer_of_two(keeper, call, store, second):
    if call == PULL:
        return pull_patches(keeper, store, second)
    if call == FORGET:
        return forget_patch(keeper, store, second)
    if call == TAG:
        return set_tag(keeper, store, second)
    if call == BACK:
        return go_back(keeper, store, second)
    return tell_alike(keeper, store, second)


def answer_call(keeper, reader):
    call = reader.take()
    if call == TREE:
        return begin_tree(keeper, reader.take_list())
    if call == RECORD:
        return answer_record(keeper, reader)
    if KNOWN <= call <= IDLE:
        return answer_of_store(keeper, call, reader.take())
    if call == BLOCK:
        return tell_block(keeper, reader.take())
    if call == BRING:
        return answer_bring(keeper, reader)
    if call == AT:
        return tell_tagged(keeper, reader.take())
    if PULL <= call <= ALIKE:
        store = reader.take()
        return answer_of_two(keeper, call, store, reader.take())
    raise UnknownCall(f"no such call: {call}")


# The object is handed in, so that what has been asked of it can be asked further.
def answers_from(keeper, calls):
    reader = Reader(calls)
    numbers = []
    while reader.has_more():
        answer = answer_call(keeper, reader)
        numbers.append(len(answer))
        numbers.extend(answer)
    return numbers


def answers(calls):
    return answers_from(Keeper(), calls)
