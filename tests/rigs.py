"""Plants and loops for the tests, and what they do, worked out here once more with Python's own fractions."""

from fractions import Fraction
from math import ceil, floor

from helms import Maker, branches_by_hand, step_by_hand
from safehelms.controllers import is_controller
from sums import dot, num, pair, row


def span(low, high):
    return pair(low), pair(high)


def sensor(*numbers):
    """A sensor: its row's numbers, LOW, HIGH, FIRST."""
    return row(*numbers[:-3]), pair(numbers[-3]), pair(numbers[-2]), numbers[-1]


def limit(*numbers):
    """A pair of SAFE: its row's numbers and, behind them, the bound."""
    return row(*numbers[:-1]), pair(numbers[-1])


def with_part(value, at, part):
    """The tuple with another part at this index, or further in, by a tuple of indexes."""
    if type(at) is int:
        at = (at,)
    inner = part if len(at) == 1 else with_part(value[at[0]], at[1:], part)
    return value[:at[0]] + (inner,) + value[at[0] + 1:]


# The plant of the document: one number, one mode, one sensor.
TANK_PLANT = ((((row(1),), row("1/2"), row("-1/2")),), (span("-1/4", "1/4"),), (span(4, 6),),
              (sensor(1, "-1/2", "1/2", 5),), 0, (0, 2, 1, 0, 0), (limit(1, 10), limit(-1, 0)))
TANK_TEXT = ("numbers 1\nmode : 1 1/2 -1/2\nnoise -1/4 1/4\nstart 4 6\nsensor 1 -1/2 1/2 5\ndelay 0\n"
             "drive 0 2 1 0 0\nsafe 1 10\nsafe -1 0\n")
TANK_HELM = (8, (("level", -10, 100),), (), (0, 5), (
    ("only", (("if", ("above", "level", 6), (("out", 0),),
               (("if", ("above", 4, "level"), (("out", 2),), (("out", 1),)),)),)),))
TANK_LOOP = (TANK_PLANT, TANK_HELM)
# Two numbers, two modes and sensors; whole numbers, fractions and numbers below 0 in all parts, drives held and cut.
CART_PLANT = (
    (((row(1, "1/2"), row(0, "3/4")), row(0, "-1/3"), row("-1/7", 0)),
     ((row(1, 1), row("-1/8", "1/2")), row("1/4", 2), row(0, "5/6"))),
    (span("-1/2", 0), span("-1/3", "1/3")), (span(-2, 2), span("1/2", "1/2")),
    (sensor(1, 0, "-1/2", "1/2", 0), sensor("1/2", -1, -2, "3/2", -7)), 2, (-3, 5, -1, 2, 1),
    (limit(1, 0, 40), limit(-1, 0, 40), limit("1/2", "1/3", "121/2")))
CART_TEXT = ("numbers 2\nmode : 1 1/2 0 -1/7 : 0 3/4 -1/3 0\nmode : 1 1 1/4 0 : -1/8 1/2 2 5/6\n"
             "noise -1/2 0\nnoise -1/3 1/3\nstart -2 2\nstart 1/2 1/2\n"
             "sensor 1 0 -1/2 1/2 0\nsensor 1/2 -1 -2 3/2 -7\ndelay 2\ndrive -3 5 -1 2 1\n"
             "safe 1 0 40\nsafe -1 0 40\nsafe 1/2 1/3 121/2\n")
CART_HELM = (10, (("a", -200, 200), ("b", -500, 500)), (("k", -9, 9, 3, 1), ("m", -4, 20, 2, 0)), (-300, 300), (
    ("ride", (("out", ("less", "b", "a")), ("set", "k", ("clamp", "a", -9, 9)), ("go", "stay"))),
    ("stay", (("out", ("add", "k", "m")), ("if", ("above", "a", "m"), (("go", "ride"), ("set", "m", "k")), ())))))
CART_LOOP = (CART_PLANT, CART_HELM)


# What loops do, by hand.

def readings_by_hand(plant, state):
    """For each sensor the list of its readings."""
    found = []
    for wish, low, high, _ in plant[3]:
        seen = dot(wish, state)
        found.append(list(range(ceil(seen + num(low)), floor(seen + num(high)) + 1)))
    return found


def moved_by_hand(plant, mode, state, drive, noise):
    rows, driven, more = plant[0][mode]
    return tuple(pair(dot(rows[k], state) + num(driven[k]) * drive + num(more[k]) + num(noise[k]))
                 for k in range(len(state)))


def is_safe_by_hand(plant, state):
    return all(dot(wish, state) <= num(bound) for wish, bound in plant[6])


def begun_by_hand(loop, state):
    plant, controller = loop
    firsts = tuple(part[3] for part in plant[3])
    return 1, 0, state, (firsts,) * plant[4], plant[5][2], (0, tuple(keep[3] for keep in controller[2]))


def step_of_loop(loop, standing, comes):
    """The next standing, by what fits."""
    plant, controller = loop
    least, most, rest, _, _ = plant[5]
    _, held, state, waiting, drive, inner = standing
    mode, noise, readings, holding, cut = comes
    if cut:
        begun = begun_by_hand(loop, state)
        kept = tuple(n if keep[4] else keep[3] for keep, n in zip(controller[2], inner[1]))
        return 0, 0, moved_by_hand(plant, mode, state, rest, noise), begun[3], rest, (0, kept)
    queue = [*waiting, readings]
    heard = queue.pop(0)
    told = step_by_hand(controller, inner, heard)
    if told[0] == "leaves":
        return "spoilt", told[1]
    if not holding:
        drive = sorted((least, told[1], most))[1]
    return (1, held + 1 if holding else 0, moved_by_hand(plant, mode, state, drive, noise), tuple(queue), drive,
            told[2])


def standings_by_hand(loop, state, rows):
    standings = [begun_by_hand(loop, state)]
    for comes in rows:
        standings.append(step_of_loop(loop, standings[-1], comes))
    return tuple(standings)


def is_safe_standing_by_hand(loop, standing):
    return standing[0] != "spoilt" and is_safe_by_hand(loop[0], standing[2])


# Whatever comes, by chance.

def some_between(source, low, high):
    """A fraction of the range, at its ends more often."""
    low, high = num(low), num(high)
    kind = source.random()
    if kind < 0.6:
        return pair(low if kind < 0.3 else high)
    return pair(low + (high - low) * Fraction(source.randint(0, 6), 6))


def some_start(source, loop):
    return tuple(some_between(source, low, high) for low, high in loop[0][2])


def some_comes(source, loop, standing, cuts=0.15, holds=0.4):
    """What fits the standing; drives are held and cut so often, where they may be."""
    plant = loop[0]
    mode = source.randrange(len(plant[0]))
    noise = tuple(some_between(source, low, high) for low, high in plant[1])
    if plant[5][4] == 1 and source.random() < cuts:
        return mode, noise, (), 0, 1
    readings = tuple(source.choice((seen[0], seen[-1], source.choice(seen)))
                     for seen in readings_by_hand(plant, standing[2]))
    may_hold = standing[0] == 1 and standing[1] < plant[5][3]
    return mode, noise, readings, 1 if may_hold and source.random() < holds else 0, 0


def some_rows(source, loop, state, many, **often):
    """Rows of up to so many steps, ended by a spoilt standing."""
    standing, rows = begun_by_hand(loop, state), []
    while len(rows) < many and len(standing) == 6:
        rows.append(some_comes(source, loop, standing, **often))
        standing = step_of_loop(loop, standing, rows[-1])
    return tuple(rows)


class Rigger:
    """Random loops."""

    def __init__(self, source):
        self.source = source

    def some(self, reach=1):
        return Fraction(self.source.randint(-2 * reach, 2 * reach), self.source.choice((1, 2, 2, 3)))

    def row(self, many, reach=1):
        return row(*[self.some(reach) if self.source.random() < 0.7 else 0 for _ in range(many)])

    def span(self, reach):
        low = self.some(reach)
        return span(low, low + self.source.choice((0, Fraction(1, 2), 1, reach)))

    def sensor(self, size):
        low = self.some()
        return self.row(size, 2), pair(low), pair(low + self.source.choice((1, 1, Fraction(5, 4), 2))), \
            self.source.randint(-4, 4)

    def drive(self):
        least, most = sorted((self.source.randint(-4, 2), self.source.randint(-1, 4)))
        most = self.source.choice((least, least + 1, most))
        return (least, most, self.source.randint(least, most), self.source.choice((0, 0, 1, 2, 3)),
                self.source.randint(0, 1))

    def plant(self, sensors):
        size = self.source.choice((1, 1, 2, 3))
        modes = tuple((tuple(self.row(size) for _ in range(size)), self.row(size), self.row(size))
                      for _ in range(self.source.choice((1, 1, 2, 3))))
        return (modes, tuple(self.span(1) for _ in range(size)), tuple(self.span(2) for _ in range(size)),
                tuple(self.sensor(size) for _ in range(sensors)), self.source.randint(0, 2), self.drive(),
                tuple((self.row(size), pair(self.some(4) + 4)) for _ in range(self.source.randint(1, 3))))

    def loop(self, widths=(5, 8, 8, 16)):
        while True:
            controller = Maker(self.source, self.source.choice(widths)).controller()
            if is_controller(controller):
                return self.plant(len(controller[1])), controller


def made_loops(source, many, is_right=lambda loop: True, **told):
    """So many random loops that are right."""
    rigger, found = Rigger(source), []
    while len(found) < many:
        loop = rigger.loop(**told)
        if is_right(loop):
            found.append(loop)
    return found


# Charts of loops, by hand: what is told of numbers is a dict from their labels to factors, None to what is added.

class Sheet:
    """The labels of a loop's numbers and of those that come, in order."""

    def __init__(self, loop):
        plant, controller = loop
        size, sensors, delay = len(plant[1]), range(len(plant[3])), plant[4]
        self.state = [("x", k) for k in range(size)]
        self.state += [("wait", age, k) for age in range(delay) for k in sensors] + ["u"]
        self.state += [("keep", k) for k in range(len(controller[2]))]
        self.coming = [("noise", k) for k in range(size)] + [("read", k) for k in sensors]
        self.heard = [("wait", 0, k) if delay else ("read", k) for k in sensors]
        self.formed = [("keep", k) for k in range(len(controller[2]))] + self.heard

    def row(self, told):
        return row(*[told.get(label, 0) for label in self.state + self.coming])

    def move(self, told):
        return self.row(told), pair(told.get(None, 0))

    def up_to(self, told, bound):
        return self.row(told), pair(num(bound) - told.get(None, 0))

    def from_on(self, told, bound):
        return self.row({label: -factor for label, factor in told.items()}), pair(told.get(None, 0) - num(bound))

    def form(self, form):
        return {**dict(zip(self.formed, form[0])), None: form[1]}


def times(number, told):
    return {label: number * factor for label, factor in told.items()}


def added(*tolds):
    labels = dict.fromkeys(label for told in tolds for label in told)
    return {label: sum(told.get(label, 0) for told in tolds) for label in labels}


def places_by_hand(loop):
    holds, cuts = loop[0][5][3:]
    return [(phase, held, 1) for phase in range(len(loop[1][4])) for held in range(holds + 1)] + \
        [("off",)] * cuts + [("spoilt",)]


def noise_by_hand(sheet, plant):
    wishes = []
    for k, (low, high) in enumerate(plant[1]):
        wishes += [sheet.up_to({("noise", k): 1}, high), sheet.from_on({("noise", k): 1}, low)]
    return wishes


def readings_wished(sheet, plant):
    wishes = []
    for k, (seen, low, high, _) in enumerate(plant[3]):
        told = {("read", k): 1, **{("x", at): -num(factor) for at, factor in enumerate(seen)}}
        wishes += [sheet.up_to(told, high), sheet.from_on(told, low)]
    return wishes


def parts_by_hand(sheet, plant, command):
    """The clamp's parts: pairs of wishes and of the drive told."""
    least, most = plant[5][:2]
    if least == most:
        return [([], {None: least})]
    parts = [([sheet.up_to(command, pair(least))], {None: least})]
    if most - least > 1:
        parts.append(([sheet.from_on(command, pair(least + 1)), sheet.up_to(command, pair(most - 1))], command))
    return parts + [([sheet.from_on(command, pair(most))], {None: most})]


def map_by_hand(sheet, plant, mode, drive, waiting, keeps):
    rows, driven, more = plant[0][mode]
    told = []
    for k, factors in enumerate(rows):
        led = {("x", at): num(factor) for at, factor in enumerate(factors)}
        told.append(added(led, times(num(driven[k]), drive), {None: num(more[k])}, {("noise", k): 1}))
    return tuple(sheet.move(one) for one in told + waiting + [drive] + keeps)


def cases_by_hand(loop):
    """Pairs of a case and of its kind: "spoilt", (mode, held), or ("cut", mode)."""
    plant, controller = loop
    sheet, places = Sheet(loop), places_by_hand(loop)
    width, modes = len(sheet.state) + len(sheet.coming), range(len(plant[0]))
    noise = noise_by_hand(sheet, plant)
    ends = noise + readings_wished(sheet, plant)
    still = tuple(sheet.move({label: 1}) for label in sheet.state)
    queue = [label for label in sheet.state + sheet.coming if label[0] in ("wait", "read")]
    waiting = [{label: 1} for label in queue[len(plant[3]):]]
    found = []
    for start, place in enumerate(places[:-1]):
        phase, held = place[:2] if len(place) == 3 else (0, None)
        for guard, wishes, keeps, command, then in branches_by_hand(controller, phase):
            guarded = [sheet.from_on(sheet.form(form), pair(0)) for form in guard]
            kept = [sheet.form(form) for form in keeps]
            for _, form in wishes:
                lot = (width, tuple(guarded + [sheet.up_to(sheet.form(form), pair(-1))] + ends))
                found.append(((start, lot, still, len(places) - 1), "spoilt"))
            for mode in modes:
                for wished, drive in parts_by_hand(sheet, plant, sheet.form(command)):
                    found.append(((start, (width, tuple(guarded + wished + ends)),
                                   map_by_hand(sheet, plant, mode, drive, waiting, kept),
                                   places.index((then, 0, 1))), (mode, 0)))
            for mode in modes if held is not None and held < plant[5][3] else ():
                found.append(((start, (width, tuple(guarded + ends)),
                               map_by_hand(sheet, plant, mode, {"u": 1}, waiting, kept),
                               places.index((then, held + 1, 1))), (mode, 1)))
        for mode in modes if plant[5][4] else ():
            firsts = [{None: part[3]} for _ in range(plant[4]) for part in plant[3]]
            kept = [{("keep", k): 1} if keep[4] else {None: keep[3]} for k, keep in enumerate(controller[2])]
            found.append(((start, (width, tuple(noise)), map_by_hand(sheet, plant, mode, {None: plant[5][2]},
                                                                     firsts, kept), len(places) - 2), ("cut", mode)))
    return found


def numbers_by_hand(standing):
    _, _, state, waiting, drive, inner = standing
    return state + row(*[reading for readings in waiting for reading in readings], drive, *inner[1])


def coming_by_hand(loop, comes):
    return comes[1] + row(*(comes[2] if not comes[4] else [0] * len(loop[0][3])))


def chart_by_hand(loop):
    plant, controller = loop
    sheet, places = Sheet(loop), places_by_hand(loop)
    size = len(sheet.state)
    begun = numbers_by_hand(begun_by_hand(loop, ()))
    wishes = []
    for at, (low, high) in enumerate(list(plant[2]) + [(number, number) for number in begun]):
        unit = [1 if k == at else 0 for k in range(size)]
        wishes += [(row(*unit), high), (row(*[-k for k in unit]), pair(-num(low)))]
    safe = (size, tuple((wish + row(*[0] * (size - len(wish))), bound) for wish, bound in plant[6]))
    spoilt = (size, ((row(*[0] * size), pair(-1)),))
    return (size, len(sheet.coming), ((0, (size, tuple(wishes))),), tuple(case for case, _ in cases_by_hand(loop)),
            (safe,) * (len(places) - 1) + (spoilt,))


def too_many_by_hand(loop):
    """The number that TooMany has to tell; None."""
    sheet = Sheet(loop)
    size, width = len(sheet.state), len(sheet.state) + len(sheet.coming)
    for number, most in ((len(places_by_hand(loop)), 12), (size, 8), (width, 12)):
        if number > most:
            return number
    cases = cases_by_hand(loop)
    return len(cases) if len(cases) > 120 else None
