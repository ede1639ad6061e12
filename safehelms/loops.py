"""Loops: plants and their controllers, their standings, what comes at a step, and runs."""

from safehelms.branches import branches_of
from safehelms.controllers import first_state, is_controller, is_right_state, restarted
from safehelms.doing import told_step
from safehelms.errors import InvalidComes, InvalidLoop, InvalidRow, InvalidRows, InvalidStanding
from safehelms.exact import is_index, is_tuple_of, is_up_to, is_whole, is_whole_from
from safehelms.parts import is_right_plant
from safehelms.plants import driven_by, is_safe_at, moved_on, readings_at
from safehelms.rows import check_row, is_row_of

MOST_STEPS = 60


def is_loop(value):
    """Whether a value, whatever it is, is a loop."""
    if not is_tuple_of(value, 2, 2) or not is_right_plant(value[0]) or not is_controller(value[1]):
        return False
    return len(value[0][3]) == len(value[1][1])


def is_standing(loop, value):
    """Whether a value, whatever it is, is a standing of the loop, spoilt or not."""
    check_loop(loop)
    return is_going(loop, value) or is_spoilt(loop, value)


def is_spoilt(loop, value):
    """Whether a value is a spoilt standing of a right loop."""
    if not is_tuple_of(value, 2, 2) or not isinstance(value[0], str) or value[0] != "spoilt":
        return False
    if not isinstance(value[1], tuple) or not all(is_whole(index) for index in value[1]):
        return False
    controller = loop[1]
    return any(value[1] == place for phase in range(len(controller[4]))
               for branch in branches_of(controller, phase) for place, _ in branch[1])


def is_going(loop, value):
    """Whether a value is a standing of a right loop that is not spoilt."""
    if not is_tuple_of(value, 6, 6):
        return False
    plant, controller = loop
    power, held, row, waiting, drive, state = value
    least, most, _, holds, cuts = plant[5]
    if not is_whole_from(power, 1 - cuts, 1) or not is_whole_from(held, 0, power * holds):
        return False
    if not is_row_of(len(plant[1]), row) or not is_tuple_of(waiting, plant[4], plant[4]):
        return False
    if not all(are_wholes(len(plant[3]), heard) for heard in waiting) or not is_whole_from(drive, least, most):
        return False
    return is_right_state(controller, state) and (power == 1 or state[0] == 0)


def are_wholes(many, value):
    """Whether a value is a tuple of so many whole numbers."""
    return is_tuple_of(value, many, many) and all(is_whole(number) for number in value)


def begun(loop, state):
    """The begun standing for a row within START."""
    check_begun(loop, state)
    return begun_at(loop, state)


def begun_at(loop, state):
    """The begun standing, both of them right."""
    plant, controller = loop
    return (1, 0, state, firsts_of(plant), plant[5][2], first_state(controller))


def firsts_of(plant):
    """What waits at first: the readings that are heard until some come."""
    return (tuple([sensor[3] for sensor in plant[3]]),) * plant[4]


def fits(loop, standing, value):
    """Whether a value, whatever it is, fits the standing."""
    check_standing_of(loop, standing)
    return fits_at(loop, standing, value)


def fits_at(loop, standing, value):
    """Whether a value fits a standing that is right; nothing fits a spoilt one."""
    if len(standing) == 2 or not is_tuple_of(value, 5, 5):
        return False
    plant = loop[0]
    mode, noise, readings, held, cut = value
    holds, cuts = plant[5][3:]
    if not is_index(mode, len(plant[0])) or not is_within(plant[1], noise) or not is_whole_from(cut, 0, cuts):
        return False
    if cut == 1:
        return is_tuple_of(readings, 0, 0) and is_whole_from(held, 0, 0)
    may_hold = 1 if standing[0] == 1 and standing[1] < holds else 0
    return is_whole_from(held, 0, may_hold) and are_readings(plant, standing[2], readings)


def is_within(pairs, value):
    """Whether a value is a row with each number from LOW up to HIGH of its pair."""
    if not is_row_of(len(pairs), value):
        return False
    return all(is_up_to(low, number) and is_up_to(number, high) for (low, high), number in zip(pairs, value))


def are_readings(plant, row, value):
    """Whether a value is a tuple of a reading of the row for each sensor."""
    if not are_wholes(len(plant[3]), value):
        return False
    return all(least <= reading <= most for (least, most), reading in zip(readings_at(plant, row), value))


def step(loop, standing, comes):
    """The next standing, by what comes."""
    check_fitting(loop, standing, comes)
    return stepped_on(loop, standing, comes)


def stepped_on(loop, standing, comes):
    """The next standing, by what fits the standing."""
    plant, controller = loop
    _, held, row, waiting, drive, state = standing
    mode, noise, readings, holding, cut = comes
    power, held_then = 1 - cut, held + 1 if holding == 1 else 0
    if cut == 1:
        waiting, drive, state = firsts_of(plant), plant[5][2], restarted(controller, state)
    else:
        waiting = waiting + (readings,)
        told = told_step(controller, state, waiting[0])
        if told[0] == "leaves":
            return ("spoilt", told[1])
        waiting, state = waiting[1:], told[2]
        drive = drive if holding == 1 else driven_by(plant, told[1])
    return (power, held_then, moved_on(plant[0][mode], row, drive, noise), waiting, drive, state)


def is_safe(loop, standing):
    """Whether the standing, spoilt or not, is safe."""
    if not is_standing(loop, standing):
        raise InvalidStanding(standing)
    return is_safe_in(loop, standing)


def is_safe_in(loop, standing):
    """Whether a standing that is right, spoilt or not, is safe."""
    return len(standing) == 6 and is_safe_at(loop[0], standing[2])


def run(loop, state, rows):
    """The tuple of all standings of the run, the begun one too."""
    check_begun(loop, state)
    return all_standings(loop, begun_at(loop, state), rows)


def gone_on(loop, standing, rows):
    """The tuple of all standings of the run that goes on from this one, which stands ahead of them."""
    check_standing_of(loop, standing)
    return all_standings(loop, standing, rows)


def all_standings(loop, standing, rows):
    """The tuple of the standings from a right one on; what does not fit is told as InvalidRows."""
    if not isinstance(rows, tuple):
        raise InvalidRows(None)
    standings = standings_by(loop, standing, rows)
    if len(standings) <= len(rows):
        raise InvalidRows(len(standings) - 1)
    return standings


def standings_by(loop, standing, rows):
    """The tuple of the standings from a right one on, as far as the rows fit, up to sixty of them."""
    standings = [standing]
    for comes in rows[:MOST_STEPS]:
        if not fits_at(loop, standings[-1], comes):
            break
        standings.append(stepped_on(loop, standings[-1], comes))
    return tuple(standings)


def first_unsafe(loop, state, rows):
    """The index of the first standing of the run that is not safe; None."""
    return first_unsafe_of(loop, run(loop, state, rows))


def first_unsafe_of(loop, standings):
    """The index of the first of these standings that is not safe; None."""
    for index, standing in enumerate(standings):
        if not is_safe_in(loop, standing):
            return index
    return None


def check_loop(loop):
    """Raise InvalidLoop for no loop."""
    if not is_loop(loop):
        raise InvalidLoop(loop)


def check_begun(loop, state):
    """Raise the error of no loop, or of what is no row within START."""
    check_loop(loop)
    start = loop[0][2]
    check_row(len(start), state)
    if not is_within(start, state):
        raise InvalidRow(None)


def check_standing_of(loop, standing):
    """Raise the error of no loop, or of what is no standing of it, a spoilt one being none."""
    check_loop(loop)
    if not is_going(loop, standing):
        raise InvalidStanding(standing)


def check_fitting(loop, standing, comes):
    """Raise the error of the first one that is wrong."""
    check_standing_of(loop, standing)
    if not fits_at(loop, standing, comes):
        raise InvalidComes(comes)
