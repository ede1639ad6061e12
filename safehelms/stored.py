"""Kept words: two slots, of which the one that is not the newer one is written, whatever cuts come."""

from safehelms.controllers import check_controller, check_state
from safehelms.errors import InvalidMemory, InvalidWrites
from safehelms.exact import is_index, is_tuple_of, is_whole_from
from safehelms.words import is_word


def kept_by(controller):
    """The list of the keeps that stand in a memory."""
    return [keep for keep in controller[2] if keep[4] == 1]


def is_memory(controller, value):
    """Whether a value, whatever it is, is a memory of the controller."""
    check_controller(controller)
    return is_right_memory(controller, value)


def is_right_memory(controller, value):
    """Whether a value is a memory of a controller that is right."""
    many = 2 * (len(kept_by(controller)) + 2)
    if not is_tuple_of(value, many, many) or not all(is_word(controller[0], word) for word in value):
        return False
    one, other = slots_of(value)
    if is_whole_slot(controller, one) and is_whole_slot(controller, other):
        return one[0] != other[0]
    return is_whole_slot(controller, one) or is_whole_slot(controller, other)


def slots_of(memory):
    """The list of the two slots."""
    half = len(memory) // 2
    return [memory[:half], memory[half:]]


def is_whole_slot(controller, slot):
    """Whether both marks of the slot are the same one, and its numbers are in their ranges."""
    if slot[0] != slot[-1] or not is_whole_from(slot[0], 0, 2):
        return False
    return all(keep[1] <= number <= keep[2] for keep, number in zip(kept_by(controller), slot[1:-1]))


def newer(controller, memory):
    """The index of the newer slot of a memory that is right."""
    one, other = slots_of(memory)
    if not is_whole_slot(controller, one):
        return 1
    if not is_whole_slot(controller, other):
        return 0
    return 0 if one[0] == mark_behind(other[0]) else 1


def mark_behind(mark):
    """The mark behind this one."""
    return (mark + 1) % 3


def slot_with(mark, numbers):
    """The whole slot with this mark."""
    return (mark,) + numbers + (mark,)


def blank(controller):
    """The memory with the first numbers in both slots, the first slot being the newer one."""
    check_controller(controller)
    numbers = tuple([keep[3] for keep in kept_by(controller)])
    return slot_with(0, numbers) + slot_with(2, numbers)


def writes_of(controller, memory, state):
    """The tuple of the pairs (CELL, WORD) by which the state is written, in order."""
    check_memory(controller, memory)
    check_state(controller, state)
    at = newer(controller, memory)
    numbers = tuple([number for keep, number in zip(controller[2], state[1]) if keep[4] == 1])
    slot = slot_with(mark_behind(slots_of(memory)[at][0]), numbers)
    begin = 0 if at == 1 else len(slot)
    return tuple([(begin + k, word) for k, word in enumerate(slot)])


def written(controller, memory, writes):
    """The memory's words with these written, one after the other."""
    check_memory(controller, memory)
    check_writes(controller, memory, writes)
    words = list(memory)
    for cell, word in writes:
        words[cell] = word
    return tuple(words)


def restored(controller, memory):
    """The state behind a cut: phase 0, what is kept from the newer slot, all else at its first number."""
    check_memory(controller, memory)
    slot = slots_of(memory)[newer(controller, memory)]
    numbers, at = [], 1
    for keep in controller[2]:
        if keep[4] == 1:
            numbers.append(slot[at])
            at += 1
        else:
            numbers.append(keep[3])
    return (0, tuple(numbers))


def check_memory(controller, memory):
    """Raise the error of the first one that is wrong."""
    check_controller(controller)
    if not is_right_memory(controller, memory):
        raise InvalidMemory(memory)


def check_writes(controller, memory, writes):
    """Raise InvalidWrites for what is no tuple of pairs of an index of a cell and a word."""
    if not is_tuple_of(writes, 0, 200):
        raise InvalidWrites(None)
    for index, pair in enumerate(writes):
        if not is_tuple_of(pair, 2, 2) or not is_index(pair[0], len(memory)) or not is_word(controller[0], pair[1]):
            raise InvalidWrites(index)
