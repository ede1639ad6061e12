"""The cases of a loop's chart, in order, with their guards and with all that their maps are made of."""

from safehelms.branches import branches_of
from safehelms.exact import opposite
from safehelms.frames import (Frame, between, constant_at, form_at, from_on, number_at, numbers_from, up_to,
                              weighed_at)


class Plan:
    """A case: where it leads from and to, its guard's wishes, the mode, whether the drive is held, or power cut.

    Without a mode the case leads to "spoilt". The drive is told as it is behind the step; `keeps` likewise.
    """

    def __init__(self, start, guard, goal, mode, held, cut, drive, keeps):
        self.start = start
        self.guard = guard
        self.goal = goal
        self.mode = mode
        self.held = held
        self.cut = cut
        self.drive = drive
        self.keeps = keeps


class Turn:
    """A branch of a controller, its forms told over the numbers of the loop."""

    def __init__(self, frame, branch):
        guard, wishes, keeps, command, phase = branch
        self.guard = tuple([from_on(form_at(frame, form), (0, 1)) for form in guard])
        self.broken = [up_to(form_at(frame, form), (-1, 1)) for _, form in wishes]
        self.keeps = [form_at(frame, form) for form in keeps]
        self.command = form_at(frame, command)
        self.phase = phase


class Scheme:
    """What all cases of a loop share."""

    def __init__(self, loop):
        self.plant, self.controller = loop
        self.frame = Frame(loop)
        self.holds, self.cuts = self.plant[5][3:]
        self.off = len(self.controller[4]) * (self.holds + 1)
        self.spoilt = self.off + self.cuts
        self.noise = noise_wishes(self.plant, self.frame)
        self.measured = self.noise + reading_wishes(self.plant, self.frame)
        self.parts = drive_parts(self.plant, self.frame)


def place_index(scheme, phase, held):
    """The index of the place (PHASE, HELD, 1)."""
    return phase * (scheme.holds + 1) + held


def noise_wishes(plant, frame):
    """The wishes that each number of NOISE is within its bounds."""
    wishes = ()
    for telling, pair in zip(numbers_from(frame, frame.size, frame.many), plant[1]):
        wishes += between(telling, pair)
    return wishes


def reading_wishes(plant, frame):
    """The wishes that each sensor's reading is one of X."""
    wishes = ()
    tellings = numbers_from(frame, 0, frame.many)
    for k, (row, low, high, _) in enumerate(plant[3]):
        factors = ((1, 1),) + tuple([opposite(number) for number in row])
        less = weighed_at(frame, factors, [number_at(frame, frame.readings + k)] + tellings)
        wishes += between(less, (low, high))
    return wishes


def drive_parts(plant, frame):
    """The list of the clamp's parts in which some whole number lies: pairs of its ends and the drive told there.

    Its ends are LOW and HIGH, None where it has none; in the place of the drive None stands for the command.
    """
    least, most = plant[5][:2]
    low, high = constant_at(frame, (least, 1)), constant_at(frame, (most, 1))
    if least == most:
        return [((None, None), low)]
    parts = [((None, (least, 1)), low)]
    if least + 1 < most:
        parts.append((((least + 1, 1), (most - 1, 1)), None))
    parts.append((((most, 1), None), high))
    return parts


def all_plans(loop):
    """The list of the plans of a right loop's cases, in order."""
    scheme = Scheme(loop)
    turns = [[Turn(scheme.frame, branch) for branch in branches_of(scheme.controller, phase)]
             for phase in range(len(scheme.controller[4]))]
    plans = []
    for start in range(scheme.spoilt):
        phase, held = divmod(start, scheme.holds + 1) if start < scheme.off else (0, scheme.holds)
        for turn in turns[phase]:
            plans.extend(spoilt_plans(scheme, start, turn))
            plans.extend(taken_plans(scheme, start, turn))
            # Behind the last place of a phase, and at "off", the drive is not held any more.
            if held < scheme.holds:
                plans.extend(held_plans(scheme, start, turn, held))
        plans.extend(cut_plans(scheme, start))
    return plans


def spoilt_plans(scheme, start, turn):
    """The list of the cases of the branch to "spoilt"."""
    return [Plan(start, turn.guard + (wish,) + scheme.measured, scheme.spoilt, None, 0, 0, None, None)
            for wish in turn.broken]


def taken_plans(scheme, start, turn):
    """The list of the cases of the branch in which the drive takes the command."""
    goal, plans = place_index(scheme, turn.phase, 0), []
    for mode in range(len(scheme.plant[0])):
        for ends, end_drive in scheme.parts:
            guard = turn.guard + end_wishes(turn.command, ends) + scheme.measured
            drive = turn.command if end_drive is None else end_drive
            plans.append(Plan(start, guard, goal, mode, 0, 0, drive, turn.keeps))
    return plans


def end_wishes(telling, ends):
    """The wishes that what is told is from LOW on, and up to HIGH, where these are not None."""
    low, high = ends
    above = () if low is None else (from_on(telling, low),)
    return above if high is None else above + (up_to(telling, high),)


def held_plans(scheme, start, turn, held):
    """The list of the cases of the branch in which the drive does not take the command."""
    goal, drive = place_index(scheme, turn.phase, held + 1), number_at(scheme.frame, scheme.frame.drive)
    return [Plan(start, turn.guard + scheme.measured, goal, mode, 1, 0, drive, turn.keeps)
            for mode in range(len(scheme.plant[0]))]


def cut_plans(scheme, start):
    """The list of the cases in which power is lost, if it may be."""
    if scheme.cuts == 0:
        return []
    frame = scheme.frame
    drive = constant_at(frame, (scheme.plant[5][2], 1))
    keeps = [number_at(frame, frame.keeps + k) if keep[4] == 1 else constant_at(frame, (keep[3], 1))
             for k, keep in enumerate(scheme.controller[2])]
    return [Plan(start, scheme.noise, scheme.off, mode, 0, 1, drive, keeps) for mode in range(len(scheme.plant[0]))]
