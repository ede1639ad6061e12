"""The checker worked out once more, and what bends claims and papers at any place."""

from helms import branches_by_hand, step_by_hand, worth
from rigs import begun_by_hand, chart_by_hand, is_safe_standing_by_hand, step_of_loop, too_many_by_hand
from safehelms.charts import is_chart
from safehelms.controllers import is_controller, is_state
from safehelms.loops import begun, fits, is_loop
from safehelms.errors import HelmError
from safehelms.lots import is_lot
from safehelms.machine import is_program
from safehelms.tables import is_table, wishes
from sums import are_lowest, dot, is_lowest, lies, num, weighed

SIZES = {"in": 3, "not in": 3, "void": 1, "some": 1, "safe": 1, "broken": 1, "step": 5, "leaves": 4, "branch": 4,
         "does": 5, "loop safe": 1, "loop broken": 1}


def are_ints(value, many=None):
    return type(value) is tuple and all(type(part) is int for part in value) and many in (None, len(value))


def is_index_of(value, many):
    return type(value) is int and 0 <= value < many


def are_right_weights(one_lot, weights):
    return are_lowest(len(one_lot[1]), weights) and all(weight[0] >= 0 for weight in weights)


def is_void_by(one_lot, weights):
    if not are_right_weights(one_lot, weights):
        return False
    sums, bound = weighed(one_lot, weights)
    return not any(sums) and bound < 0


def is_paper_by_hand(one_lot, wish, bound, paper):
    if type(paper) is not tuple or len(paper) != 2 or paper[0] not in ("bound", "void"):
        return False
    if paper[0] == "void":
        return is_void_by(one_lot, paper[1])
    if not are_right_weights(one_lot, paper[1]):
        return False
    sums, least = weighed(one_lot, paper[1])
    return sums == [num(number) for number in wish] and least <= num(bound)


def is_table_paper_by_hand(chart, paper):
    if type(paper) is not tuple or len(paper) != 2 or not is_table(chart, paper[0]):
        return False
    asked = wishes(chart, paper[0])
    return (type(paper[1]) is tuple and len(paper[1]) == len(asked)
            and all(is_paper_by_hand(*one, told) for one, told in zip(asked, paper[1])))


def is_point_by_hand(one_lot, value):
    return are_lowest(one_lot[0], value) and lies(one_lot, value)


def is_breaking_by_hand(chart, row):
    size, coming, starts, cases, safes = chart
    if type(row) is not tuple or len(row) != 3 or not is_index_of(row[0], len(starts)) or type(row[2]) is not tuple:
        return False
    place, one_lot = starts[row[0]]
    state = row[1]
    if not is_point_by_hand(one_lot, state):
        return False
    for pair in row[2]:
        if type(pair) is not tuple or len(pair) != 2 or not is_index_of(pair[0], len(cases)):
            return False
        start, guard, moves, goal = cases[pair[0]]
        if not are_lowest(coming, pair[1]) or start != place or not lies(guard, state + pair[1]):
            return False
        led = [dot(wish, state + pair[1]) + num(number) for wish, number in moves]
        place, state = goal, tuple((number.numerator, number.denominator) for number in led)
    return not lies(safes[place], state)


def ended_by_hand(width, program, cells):
    """What stands in the cells in the end."""
    at, cells = 0, dict(cells)

    def read(cell):
        return cells.get(cell, 0)

    def wrap(number):
        number %= 2 ** width
        return number - 2 ** width if number >= 2 ** (width - 1) else number
    while program[at][0] != "stop":
        word, *rest = program[at]
        at += 1
        if word == "jump":
            at = rest[0]
        elif word == "below":
            at = rest[2] if read(rest[0]) < read(rest[1]) else at
        else:
            cells[rest[0]] = {"put": lambda: rest[1], "copy": lambda: read(rest[1]),
                              "add": lambda: wrap(read(rest[1]) + read(rest[2])),
                              "less": lambda: wrap(read(rest[1]) - read(rest[2])),
                              "times": lambda: wrap(read(rest[1]) * rest[2])}[word]()
    return cells


def has_words_of(width, program):
    words = [row[{"put": 2, "times": 3}[row[0]]] for row in program if row[0] in ("put", "times")]
    return all(-2 ** (width - 1) <= word < 2 ** (width - 1) for word in words)


def is_layout_by_hand(controller, value):
    if type(value) is not tuple or len(value) != 4:
        return False
    if not are_ints(value[0], len(controller[1])) or not are_ints(value[1], len(controller[2])) \
            or not are_ints(value[2:]):
        return False
    cells = [*value[0], *value[1], *value[2:]]
    return len(set(cells)) == len(cells) and all(0 <= cell < 128 for cell in cells)


def is_step_by_hand(controller, state, readings):
    return is_controller(controller) and is_state(controller, state) and are_ints(readings, len(controller[1]))


def does_by_hand(controller, program, layout, state, readings):
    if not is_step_by_hand(controller, state, readings) or not is_program(program):
        return False
    if not has_words_of(controller[0], program) or not is_layout_by_hand(controller, layout):
        return False
    told = step_by_hand(controller, state, readings)
    if told[0] == "leaves":
        return True
    heard, kept, phase, command = layout
    end = ended_by_hand(controller[0], program, [*zip(heard, readings), *zip(kept, state[1]), (phase, state[0])])
    return (end.get(command, 0), (end.get(phase, 0), tuple(end.get(cell, 0) for cell in kept))) == told[1:]


def is_history_that_breaks(loop, paper):
    if type(paper) is not tuple or len(paper) != 2 or type(paper[1]) is not tuple or len(paper[1]) > 60:
        return False
    try:
        begun(loop, paper[0])
    except HelmError:
        return False
    standing = begun_by_hand(loop, paper[0])
    for comes in paper[1]:
        if len(standing) == 2 or not fits(loop, standing, comes):
            return False
        standing = step_of_loop(loop, standing, comes)
    return not is_safe_standing_by_hand(loop, standing)


def accepted_by_hand(claim, paper):
    """What the checker has to tell; what is right in form is asked of the package."""
    if type(claim) is not tuple or not claim or type(claim[0]) is not str or SIZES.get(claim[0]) != len(claim) - 1:
        return False
    head, parts = claim[0], claim[1:]
    if head in ("in", "not in"):
        one_lot, wish, bound = parts
        if not is_lot(one_lot) or not are_lowest(one_lot[0], wish) or not is_lowest(bound):
            return False
        if head == "in":
            return is_paper_by_hand(one_lot, wish, bound, paper)
        return is_point_by_hand(one_lot, paper) and dot(wish, paper) > num(bound)
    if head in ("void", "some"):
        return is_lot(parts[0]) and (is_void_by if head == "void" else is_point_by_hand)(parts[0], paper)
    if head in ("safe", "broken"):
        return is_chart(parts[0]) and (is_table_paper_by_hand if head == "safe" else is_breaking_by_hand)(parts[0], paper)
    if head == "loop safe":
        return (is_loop(parts[0]) and too_many_by_hand(parts[0]) is None
                and is_table_paper_by_hand(chart_by_hand(parts[0]), paper))
    if head == "loop broken":
        return is_loop(parts[0]) and is_history_that_breaks(parts[0], paper)
    if type(paper) is not tuple or paper:
        return False
    if head == "does":
        return does_by_hand(*parts)
    if head == "branch":
        controller, phase, numbers, index = parts
        if not is_controller(controller) or not is_index_of(phase, len(controller[4])):
            return False
        branches = branches_by_hand(controller, phase)
        return (are_ints(numbers, len(controller[1] + controller[2])) and is_index_of(index, len(branches))
                and all(worth(form, numbers) >= 0 for form in branches[index][0]))
    if not is_step_by_hand(*parts[:3]):
        return False
    if head == "leaves":
        return are_ints(parts[3]) and step_by_hand(*parts[:3]) == ("leaves", parts[3])
    return (type(parts[3]) is int and is_state(parts[0], parts[4])
            and step_by_hand(*parts[:3]) == ("step", *parts[3:]))


# What bends a value somewhere, by chance.

ODD_PARTS = [None, True, False, "", "x", b"", (), (1,), (0, 1), (1, 1), (-1, 1), (1, 2), (2, 4), [], {}, 0, 1, -1, 2, 127,
             128, ((),), ("bound", ()), ("void", ()), 10 ** 60]


def bent_by_chance(source, value):
    """The value with one part changed: a number, a text, or a tuple made longer, shorter or turned round."""
    if type(value) is tuple and value and source.random() < 0.93:
        at = source.randrange(len(value))
        return value[:at] + (bent_by_chance(source, value[at]),) + value[at + 1:]
    kind = source.random()
    if type(value) is int and kind < 0.8:
        return source.choice((value + 1, value - 1, -value, 2 * value, value == 1, bool(value), 0, 1))
    if type(value) is tuple and kind < 0.8:
        return source.choice((value[:-1], value[1:], value + value[-1:], value[::-1], list(value), value + ((0, 1),),
                              (value,), value + (0,)))
    if type(value) is str and kind < 0.6:
        return source.choice((value[:-1], value + " ", value.upper(), value.encode(), "void", "bound", "spoilt"))
    return source.choice(ODD_PARTS)
