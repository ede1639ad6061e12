"""Blocks of controllers: which ones are right, and into how many branches they part."""

from safehelms.exact import is_tuple_of
from safehelms.shapes import CONDITION_PARTS, SUM_PARTS, head_of, is_plain_name
from safehelms.words import is_word


class Check:
    """What a phase's block is held against, its locals so far, and how many more parts may stand in it."""

    def __init__(self, width, inputs, keeps, phases):
        self.width = width
        self.inputs = inputs
        self.keeps = keeps
        self.phases = phases
        self.local_names = {}
        self.left = 100


def is_phase_block(width, inputs, keeps, phases, block):
    """Whether a value is a phase's block, beside these names of inputs, keeps and phases."""
    check = Check(width, inputs, keeps, phases)
    known = known_behind(check, block, {name: True for name in inputs + keeps}, 1)
    if known is None or "out" not in known or len(check.local_names) > 12:
        return False
    return ways_of_block(block) <= 24


# What is known behind a statement are the names that have a number on each way to there and, as no name is a word,
# "out" if a command was told on each of them.

def known_behind(check, block, known, deep):
    """A dict of what is known behind the block, by what is known ahead of it; None if it is no block."""
    if deep > 4 or not is_tuple_of(block, 0, 12):
        return None
    for statement in block:
        known = known_behind_one(check, statement, known, deep)
        if known is None:
            return None
    return known


def known_behind_one(check, statement, known, deep):
    """A dict of what is known behind the statement; None if it is none."""
    check.left -= 1
    head = head_of(statement)
    if check.left < 0 or head is None:
        return None
    if head == "if" and len(statement) == 4:
        return known_behind_if(check, statement, known, deep)
    if head == "go" and len(statement) == 2:
        return known if isinstance(statement[1], str) and statement[1] in check.phases else None
    if head == "out" and len(statement) == 2:
        return {**known, "out": True} if is_sum(check, statement[1], known, 1) else None
    if head == "set" and len(statement) == 3 and is_set_name(check, statement[1]):
        return {**known, statement[1]: True} if is_sum(check, statement[2], known, 1) else None
    return None


def known_behind_if(check, statement, known, deep):
    """A dict of what is known behind both blocks of an "if"; None if it is no statement."""
    if not is_condition(check, statement[1], known, 1):
        return None
    one = known_behind(check, statement[2], known, deep + 1)
    other = None if one is None else known_behind(check, statement[3], known, deep + 1)
    return None if other is None else {name: True for name in one if name in other}


def is_set_name(check, name):
    """Whether a value is a name that may be set; one that is no keep's becomes a local."""
    if not is_plain_name(name) or name in check.inputs:
        return False
    if name not in check.keeps:
        check.local_names[name] = True
    return True


def is_sum(check, value, known, deep):
    """Whether a value is a sum, so deep, of names that are known."""
    check.left -= 1
    if check.left < 0 or deep > 6:
        return False
    if isinstance(value, str):
        return is_plain_name(value) and value in known
    if not isinstance(value, tuple):
        return is_word(check.width, value)
    parts = SUM_PARTS.get(head_of(value))
    if parts is None or len(value) != len(parts) + 1:
        return False
    for kind, part in zip(parts, value[1:]):
        if kind == "word" and not is_word(check.width, part):
            return False
        if kind == "sum" and not is_sum(check, part, known, deep + 1):
            return False
    return value[0] != "clamp" or value[2] <= value[3]


def is_condition(check, value, known, deep):
    """Whether a value is a condition, so deep, of names that are known."""
    check.left -= 1
    parts = CONDITION_PARTS.get(head_of(value))
    if check.left < 0 or deep > 6 or parts is None or len(value) != len(parts) + 1:
        return False
    for kind, part in zip(parts, value[1:]):
        if kind == "sum" and not is_sum(check, part, known, 1):
            return False
        if kind == "condition" and not is_condition(check, part, known, deep + 1):
            return False
    return True


# The ways into which forms are parted are counted by the text alone: all that parts does so whatever the forms are.

def ways_of_block(block):
    """Into how many branches a right block parts."""
    ways = 1
    for statement in block:
        if statement[0] == "if":
            so, otherwise = ways_of_condition(statement[1])
            ways *= so * ways_of_block(statement[2]) + otherwise * ways_of_block(statement[3])
        elif statement[0] != "go":
            ways *= ways_of_sum(statement[-1])
    return ways


def ways_of_sum(value):
    """Into how many ways a right sum parts."""
    if not isinstance(value, tuple):
        return 1
    if value[0] == "clamp":
        return 3 * ways_of_sum(value[1])
    if value[0] == "times":
        return ways_of_sum(value[2])
    ways = ways_of_sum(value[1]) * ways_of_sum(value[2])
    return 2 * ways if value[0] in ("least", "greatest") else ways


def ways_of_condition(value):
    """Into how many ways a right condition parts on which it is so, and on which it is not so."""
    if value[0] == "not":
        so, otherwise = ways_of_condition(value[1])
        return (otherwise, so)
    if value[0] in ("and", "or"):
        so, otherwise = ways_of_condition(value[1])
        more, less = ways_of_condition(value[2])
        if value[0] == "and":
            return (so * more, so * less + otherwise)
        return (so + otherwise * more, otherwise * less)
    ways = ways_of_sum(value[1]) * ways_of_sum(value[2])
    return (ways, 2 * ways) if value[0] == "same" else (ways, ways)
