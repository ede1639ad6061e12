"""Controllers in a small language of whole numbers: what is one, its states and its steps."""

from safehelms.blocks import is_phase_block
from safehelms.doing import told_step
from safehelms.errors import InvalidController, InvalidReadings, InvalidRows, InvalidState
from safehelms.exact import is_index, is_tuple_of, is_whole, is_whole_from
from safehelms.shapes import is_plain_name
from safehelms.words import is_width, is_word


def is_controller(value):
    """Whether a value, whatever it is, is a controller."""
    if not is_tuple_of(value, 5, 5) or not is_width(value[0]):
        return False
    width, inputs, keeps, out, phases = value
    if not is_tuple_of(inputs, 1, 2) or not is_tuple_of(keeps, 0, 3) or not is_tuple_of(phases, 1, 4):
        return False
    if not all(is_input(width, one) for one in inputs) or not all(is_keep(width, one) for one in keeps):
        return False
    if not is_tuple_of(out, 2, 2) or not is_range(width, out[0], out[1]) or not all(is_named(one) for one in phases):
        return False
    heard, kept, told = names_of(inputs), names_of(keeps), names_of(phases)
    if not are_unlike(heard + kept) or not are_unlike(told):
        return False
    return all(is_phase_block(width, heard, kept, told, block) for _, block in phases)


def is_range(width, low, high):
    """Whether two values are words, the first one up to the second."""
    return is_word(width, low) and is_word(width, high) and low <= high


def is_input(width, value):
    """Whether a value is a triple (NAME, LOW, HIGH)."""
    return is_tuple_of(value, 3, 3) and is_plain_name(value[0]) and is_range(width, value[1], value[2])


def is_keep(width, value):
    """Whether a value is a tuple (NAME, LOW, HIGH, FIRST, KEPT)."""
    if not is_tuple_of(value, 5, 5) or not is_input(width, value[:3]):
        return False
    return is_whole_from(value[3], value[1], value[2]) and is_whole_from(value[4], 0, 1)


def is_named(value):
    """Whether a value is a pair of a name and whatever else."""
    return is_tuple_of(value, 2, 2) and is_plain_name(value[0])


def names_of(rows):
    """The list of the names with which the rows begin."""
    return [row[0] for row in rows]


def are_unlike(names):
    """Whether no two of the names are alike."""
    return len(set(names)) == len(names)


def is_state(controller, value):
    """Whether a value, whatever it is, is a state of the controller."""
    check_controller(controller)
    return is_right_state(controller, value)


def is_right_state(controller, value):
    """Whether a value is a state of a controller that is right."""
    keeps = controller[2]
    if not is_tuple_of(value, 2, 2) or not is_index(value[0], len(controller[4])):
        return False
    if not is_tuple_of(value[1], len(keeps), len(keeps)):
        return False
    return all(is_whole_from(number, keep[1], keep[2]) for keep, number in zip(keeps, value[1]))


def first_state(controller):
    """Phase 0, with all keeps at their first numbers."""
    check_controller(controller)
    return (0, tuple([keep[3] for keep in controller[2]]))


def restarted(controller, state):
    """The state behind a cut, the passed one being the last one written."""
    check_controller(controller)
    check_state(controller, state)
    return (0, tuple([number if keep[4] == 1 else keep[3] for keep, number in zip(controller[2], state[1])]))


def step_of(controller, state, readings):
    """What the step by the readings tells: ("step", COMMAND, STATE) or ("leaves", PLACE)."""
    check_step(controller, state, readings)
    return told_step(controller, state, readings)


def run_from(controller, state, rows):
    """The tuple of what the steps tell, each from the state that the one ahead told, up to one that leaves."""
    check_controller(controller)
    check_state(controller, state)
    check_rows(controller, rows)
    run = []
    for readings in rows:
        told = told_step(controller, state, readings)
        run.append(told)
        if told[0] == "leaves":
            break
        state = told[2]
    return tuple(run)


def check_controller(controller):
    """Raise InvalidController for no controller."""
    if not is_controller(controller):
        raise InvalidController(controller)


def check_state(controller, state):
    """Raise InvalidState for no state of a right controller."""
    if not is_right_state(controller, state):
        raise InvalidState(state)


def check_step(controller, state, readings):
    """Raise the error of the first one that is wrong."""
    check_controller(controller)
    check_state(controller, state)
    many = len(controller[1])
    if not is_tuple_of(readings, many, many):
        raise InvalidReadings(None)
    for index, reading in enumerate(readings):
        if not is_whole(reading):
            raise InvalidReadings(index)


def check_rows(controller, rows):
    """Raise InvalidRows for what is no tuple of up to 60 readings."""
    many = len(controller[1])
    if not is_tuple_of(rows, 0, 60):
        raise InvalidRows(None)
    for index, readings in enumerate(rows):
        if not is_tuple_of(readings, many, many) or not all(is_whole(reading) for reading in readings):
            raise InvalidRows(index)
