"""Loops as charts: their places and numbers, and which cases tell each step."""

from safehelms.errors import TooMany
from safehelms.frames import Frame, constant_at, number_at, numbers_from, weighed_at
from safehelms.loops import begun_at, check_fitting, check_loop, check_standing_of, firsts_of, stepped_on
from safehelms.lots import box_of, is_inside
from safehelms.plans import all_plans


def places_of(loop):
    """The tuple of the loop's places, in order."""
    check_loop(loop)
    plans_within(loop)
    return all_places(loop)


def all_places(loop):
    """The tuple of the places of a loop that is right."""
    plant, controller = loop
    holds, cuts = plant[5][3:]
    places = [(phase, held, 1) for phase in range(len(controller[4])) for held in range(holds + 1)]
    if cuts == 1:
        places.append(("off",))
    return tuple(places + [("spoilt",)])


def numbers_of(loop, standing):
    """The numbers of a standing that is not spoilt: X, all that waits, U and the keeps."""
    check_standing_of(loop, standing)
    plans_within(loop)
    return numbers_in(standing)


def numbers_in(standing):
    """The numbers of a standing that is right."""
    _, _, row, waiting, drive, state = standing
    wholes = [reading for readings in waiting for reading in readings] + [drive] + list(state[1])
    return row + tuple([(number, 1) for number in wholes])


def numbers_that_come(loop, standing, comes):
    """The numbers of what comes: NOISE and READINGS, a 0 for each sensor where power is cut."""
    check_fitting(loop, standing, comes)
    plans_within(loop)
    return coming_in(loop, comes)


def coming_in(loop, comes):
    """The numbers of what comes, which fits."""
    _, noise, readings, _, cut = comes
    if cut == 1:
        readings = (0,) * len(loop[0][3])
    return noise + tuple([(reading, 1) for reading in readings])


def chart_of(loop):
    """The chart of the loop."""
    check_loop(loop)
    plans = plans_within(loop)
    frame, places = Frame(loop), all_places(loop)
    cases = [(plan.start, (frame.width, plan.guard), map_of(loop, frame, plan), plan.goal) for plan in plans]
    safes = (safe_lot(loop, frame),) * (len(places) - 1) + (void_lot(frame),)
    return (frame.size, frame.width - frame.size, ((0, start_lot(loop)),), tuple(cases), safes)


def start_lot(loop):
    """The lot of the numbers of begun standings."""
    # What is behind X is the same for all begun standings, so it is told of one without X.
    others = numbers_in(begun_at(loop, ()))
    return box_of(loop[0][2] + tuple([(number, number) for number in others]))


def safe_lot(loop, frame):
    """The lot of the numbers of standings whose X is safe."""
    behind = ((0, 1),) * (frame.size - frame.many)
    return (frame.size, tuple([(row + behind, bound) for row, bound in loop[0][6]]))


def void_lot(frame):
    """The lot of "spoilt", in which nothing lies."""
    return (frame.size, ((((0, 1),) * frame.size, (-1, 1)),))


def map_of(loop, frame, plan):
    """The map of the plan's case."""
    if plan.mode is None:
        return tuple(numbers_from(frame, 0, frame.size))
    return tuple(moves_of(loop[0], frame, plan) + waiting_behind(loop[0], frame, plan) + [plan.drive] + plan.keeps)


def moves_of(plant, frame, plan):
    """The list of the tellings of X behind the step."""
    rows, driven, more = plant[0][plan.mode]
    moves, one = [], (1, 1)
    ahead = numbers_from(frame, 0, frame.many) + [plan.drive]
    for k, row in enumerate(rows):
        tellings = ahead + [number_at(frame, frame.size + k), constant_at(frame, more[k])]
        moves.append(weighed_at(frame, row + (driven[k], one, one), tellings))
    return moves


def waiting_behind(plant, frame, plan):
    """The list of the tellings of all that waits behind the step, oldest first."""
    if plan.cut == 1:
        return [constant_at(frame, (first, 1)) for firsts in firsts_of(plant) for first in firsts]
    many = frame.drive - frame.waiting
    queue = numbers_from(frame, frame.waiting, many) + numbers_from(frame, frame.readings, frame.sensors)
    return queue[frame.sensors:]


def cases_for(loop, standing, comes):
    """The ascending tuple of the indexes of the cases that tell the step by what comes."""
    check_fitting(loop, standing, comes)
    plans = plans_within(loop)
    start, then = place_at(loop, standing), stepped_on(loop, standing, comes)
    width, numbers = Frame(loop).width, numbers_in(standing) + coming_in(loop, comes)
    return tuple([index for index, plan in enumerate(plans)
                  if plan.start == start and is_told_by(plan, comes, then) and is_inside((width, plan.guard), numbers)])


def place_at(loop, standing):
    """The index of the place of a standing that is not spoilt."""
    power, held, _, _, _, state = standing
    place = ("off",) if power == 0 else (state[0], held, 1)
    return all_places(loop).index(place)


def is_told_by(plan, comes, then):
    """Whether the plan's case is of the kind by which what comes leads to the next standing."""
    mode, _, _, held, cut = comes
    if len(then) == 2:
        return plan.mode is None
    return plan.mode == mode and plan.held == held and plan.cut == cut


def plans_within(loop):
    """The list of the plans of a right loop's cases; TooMany where they make no chart."""
    frame, places = Frame(loop), all_places(loop)
    for many, most in ((len(places), 12), (frame.size, 8), (frame.width, 12)):
        if many > most:
            raise TooMany(many)
    plans = all_plans(loop)
    for plan in plans:
        if len(plan.guard) > 40:
            raise TooMany(len(plan.guard))
    if len(plans) > 120:
        raise TooMany(len(plans))
    return plans
