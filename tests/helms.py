"""Controllers for the tests, and what they do, worked out here once more in other ways."""

FILLING = (("if", ("above", "level", 80), (("out", 0), ("go", "rest")),
            (("out", 5), ("set", "count", ("least", ("add", "count", 1), 9)))),)
RESTING = (("out", 0), ("if", ("from", 40, "level"), (("go", "fill"),), ()))
TANK = (8, (("level", 0, 100),), (("count", 0, 9, 0, 1),), (0, 5), (("fill", FILLING), ("rest", RESTING)))
RISING = (8, (("level", 0, 100),), (), (0, 5),
          (("only", (("set", "more", ("times", 2, "level")), ("out", ("clamp", "more", 0, 5)))),))
# Two inputs, three keeps, four phases; words, names, keeps and locals in all kinds of sums and conditions.
BROAD = (10, (("a", -100, 100), ("b", -512, 511)), (("k", -9, 9, -1, 1), ("l", 0, 500, 7, 0), ("m", -3, -1, -2, 1)),
         (-512, 511), (
    ("p", (("set", "x", ("less", ("times", -2, "a"), "k")),
           ("if", ("and", ("same", "x", "l"), ("not", ("above", "b", 3))), (("out", "x"), ("go", "q")),
            (("out", ("greatest", "b", "x")), ("set", "l", ("clamp", "b", 0, 500)))))),
    ("q", (("out", ("add", "k", "m")), ("set", "k", ("clamp", "a", -9, 9)), ("set", "m", ("less", "m", 0)),
           ("if", ("or", ("from", "a", "b"), ("same", "k", "m")), (("go", "r"),), ()))),
    ("r", (("set", "x", "a"), ("set", "x", ("add", "x", "b")), ("out", "x"), ("go", "p"), ("go", "a"))),
    ("a", (("out", ("times", 3, "b")), ("out", ("least", "l", ("less", 0, "a"))), ("set", "l", 500))),
))


def lowest(width):
    return -2 ** (width - 1)


def highest(width):
    return 2 ** (width - 1) - 1


class Left(Exception):
    """The step left, at this place."""


class Doer:
    """Steps with numbers, done by plain recursion; what leaves is raised."""

    def __init__(self, controller, state, readings):
        self.controller = controller
        self.names = dict(zip([part[0] for part in controller[2] + controller[1]], state[1] + readings))
        self.command, self.phase = None, state[0]

    def told(self):
        width, inputs, keeps, _, phases = self.controller
        try:
            for name, low, high in inputs:
                self.held(self.names[name], low, high, ())
            self.block(phases[self.phase][1], ())
        except Left as left:
            return ("leaves", left.args[0])
        return ("step", self.command, (self.phase, tuple(self.names[keep[0]] for keep in keeps)))

    def held(self, number, low, high, place):
        if number < low or number > high:
            raise Left(place)
        return number

    def block(self, block, place):
        for at, statement in enumerate(block):
            self.statement(statement, (*place, at))

    def statement(self, statement, place):
        word, *rest = statement
        if word == "if":
            branch = 2 if self.condition(rest[0], (*place, 1)) else 3
            self.block(statement[branch], (*place, branch))
        elif word == "go":
            self.phase = [name for name, _ in self.controller[4]].index(rest[0])
        elif word == "out":
            self.command = self.held(self.sum(rest[0], (*place, 1)), *self.controller[3], place)
        else:
            number = self.sum(rest[1], (*place, 2))
            for name, low, high, _, _ in self.controller[2]:
                if name == rest[0]:
                    self.held(number, low, high, place)
            self.names[rest[0]] = number

    def sum(self, value, place):
        if type(value) is int:
            return value
        if type(value) is str:
            return self.names[value]
        if value[0] == "clamp":
            return sorted((value[2], self.sum(value[1], (*place, 1)), value[3]))[1]
        if value[0] == "times":
            return self.word(value[1] * self.sum(value[2], (*place, 2)), place)
        one, other = self.sum(value[1], (*place, 1)), self.sum(value[2], (*place, 2))
        if value[0] in ("add", "less"):
            return self.word(one + other if value[0] == "add" else one - other, place)
        return {"least": min, "greatest": max}[value[0]](one, other)

    def word(self, number, place):
        return self.held(number, lowest(self.controller[0]), highest(self.controller[0]), place)

    def condition(self, value, place):
        if value[0] == "not":
            return not self.condition(value[1], (*place, 1))
        if value[0] == "and":
            return self.condition(value[1], (*place, 1)) and self.condition(value[2], (*place, 2))
        if value[0] == "or":
            return self.condition(value[1], (*place, 1)) or self.condition(value[2], (*place, 2))
        one, other = self.sum(value[1], (*place, 1)), self.sum(value[2], (*place, 2))
        return {"from": one >= other, "above": one > other, "same": one == other}[value[0]]


def step_by_hand(controller, state, readings):
    return Doer(controller, state, readings).told()


class Form(tuple):
    """Factors and a constant behind them, as one row."""

    def __add__(self, other):
        return Form(a + b for a, b in zip(self, other))

    def __sub__(self, other):
        return Form(a - b for a, b in zip(self, other))

    def __rmul__(self, number):
        return Form(number * a for a in self)


class Follower(Doer):
    """A block done with forms, once for each row of choices: branch by branch, begun anew each time."""

    def __init__(self, controller, phase, choices):
        self.controller, self.command, self.phase = controller, None, phase
        self.many = len(controller[1] + controller[2])
        self.choices, self.at, self.options = choices, 0, []
        self.guard, self.wishes = [], []
        self.names = {part[0]: Form(1 if at == place else 0 for at in range(self.many + 1))
                      for place, part in enumerate(controller[2] + controller[1])}

    def constant(self, number):
        return Form([0] * self.many + [number])

    def told(self):
        for name, low, high in self.controller[1]:
            self.held(self.names[name], low, high, ())
        self.block(self.controller[4][self.phase][1], ())
        plain = [(form[:-1], form[-1]) for form in [self.names[keep[0]] for keep in self.controller[2]]]
        return (tuple((tuple(form[:-1]), form[-1]) for form in self.guard),
                tuple((place, (tuple(form[:-1]), form[-1])) for place, form in self.wishes),
                tuple((tuple(factors), constant) for factors, constant in plain),
                (tuple(self.command[:-1]), self.command[-1]), self.phase)

    def held(self, number, low, high, place):
        self.wishes += [(place, number - self.constant(low)), (place, self.constant(high) - number)]
        return number

    def chosen(self, *parts):
        """One of these parts, each a row of forms for the guard and what is told then."""
        choice = self.choices[self.at] if self.at < len(self.choices) else 0
        self.options.append((choice, len(parts)))
        self.at += 1
        self.guard += parts[choice][0]
        return parts[choice][1]

    def sum(self, value, place):
        if type(value) is int:
            return self.constant(value)
        if type(value) is str:
            return self.names[value]
        one, none = self.constant(1), None
        if value[0] == "clamp":
            form, low, high = self.sum(value[1], (*place, 1)), self.constant(value[2]), self.constant(value[3])
            return self.chosen(([low - form - one], low), ([form - high - one], high),
                               ([form - low, high - form], form))
        if value[0] == "times":
            return self.word(value[1] * self.sum(value[2], (*place, 2)), place)
        a, b = self.sum(value[1], (*place, 1)), self.sum(value[2], (*place, 2))
        if value[0] in ("add", "less"):
            return self.word(a + b if value[0] == "add" else a - b, place)
        if value[0] == "least":
            return self.chosen(([b - a], a), ([a - b - one], b))
        return self.chosen(([a - b], a), ([b - a - one], b))

    def condition(self, value, place):
        if value[0] in ("not", "and", "or"):
            return Doer.condition(self, value, place)
        one = self.constant(1)
        a, b = self.sum(value[1], (*place, 1)), self.sum(value[2], (*place, 2))
        if value[0] == "from":
            return self.chosen(([a - b], True), ([b - a - one], False))
        if value[0] == "above":
            return self.chosen(([a - b - one], True), ([b - a], False))
        return self.chosen(([a - b, b - a], True), ([a - b - one], False), ([b - a - one], False))


def branches_by_hand(controller, phase, most=None):
    """All branches in order: rows of choices counted up like figures; up to so many, if that is told."""
    found, choices = [], []
    while most is None or len(found) < most:
        follower = Follower(controller, phase, choices)
        found.append(follower.told())
        taken = follower.options
        while taken and taken[-1][0] == taken[-1][1] - 1:
            taken = taken[:-1]
        if not taken:
            break
        choices = [choice for choice, _ in taken[:-1]] + [taken[-1][0] + 1]
    return tuple(found)


def worth(form, numbers):
    return sum(factor * number for factor, number in zip(form[0], numbers)) + form[1]


class Maker:
    """Random controllers: most of what is made is right; what parts too often is left out by who asks for it."""

    def __init__(self, source, width):
        self.source, self.width = source, width
        self.low, self.high = lowest(width), highest(width)

    def word(self):
        kind = self.source.random()
        if kind < 0.15:
            return self.source.choice((self.low, self.high, self.low + 1, self.high - 1))
        return self.source.randint(self.low, self.high) if kind < 0.4 else self.source.randint(-3, 4)

    def pair(self):
        if self.source.random() < 0.4:
            return self.low, self.high
        return tuple(sorted((self.word(), self.word())))

    def controller(self):
        inputs = tuple((name, *self.pair()) for name in ("a", "b_")[:self.source.randint(1, 2)])
        keeps = []
        for name in ("k", "keeps", "m")[:self.source.randint(0, 3)]:
            low, high = self.pair()
            keeps.append((name, low, high, self.source.randint(low, high), self.source.randint(0, 1)))
        self.phases = ("p", "q", "x", "a")[:self.source.randint(1, 4)]
        self.inputs, self.keeps = [one[0] for one in inputs], [one[0] for one in keeps]
        phases = tuple((name, self.phase()) for name in self.phases)
        return (self.width, inputs, tuple(keeps), self.pair(), phases)

    def phase(self):
        block, known = self.block(self.inputs + self.keeps, 3)
        return block + (("out", self.sum(known, 2)),)

    def block(self, known, deep):
        block = []
        for _ in range(self.source.choice((0, 1, 1, 2, 3))):
            kind = self.source.choice(("set", "set", "set", "out", "go", "if", "if"))
            if kind == "set":
                name = self.source.choice(self.keeps + ["x", "y", "q"])
                block.append(("set", name, self.sum(known, 3)))
                known = known + [name]
            elif kind == "out":
                block.append(("out", self.sum(known, 2)))
            elif kind == "go":
                block.append(("go", self.source.choice(self.phases)))
            elif deep > 1:
                one, known_one = self.block(known, deep - 1)
                other, known_other = self.block(known, deep - 1)
                block.append(("if", self.condition(known, 3), one, other))
                known = [name for name in known_one if name in known_other]
        return tuple(block), known

    def sum(self, known, deep):
        kind = self.source.choice(("word", "name", "name", "add", "less", "times", "least", "greatest", "clamp"))
        if kind == "word" or (deep == 1 and kind != "name"):
            return self.word()
        if kind == "name":
            return self.source.choice(known)
        if kind == "times":
            return (kind, self.source.choice((self.word(), 2, -1)), self.sum(known, deep - 1))
        if kind == "clamp":
            return (kind, self.sum(known, deep - 1), *sorted((self.word(), self.word())))
        return (kind, self.sum(known, deep - 1), self.sum(known, deep - 1))

    def condition(self, known, deep):
        kind = self.source.choice(("from", "above", "same", "not", "and", "or"))
        if kind in ("from", "above", "same") or deep == 1:
            return (self.source.choice(("from", "above", "same")), self.sum(known, 2), self.sum(known, 2))
        if kind == "not":
            return (kind, self.condition(known, deep - 1))
        return (kind, self.condition(known, deep - 1), self.condition(known, deep - 1))


def made_controllers(source, many, is_right, widths=(4, 5, 8, 16, 31, 32)):
    """So many random controllers that are right."""
    found = []
    while len(found) < many:
        controller = Maker(source, source.choice(widths)).controller()
        if is_right(controller):
            found.append(controller)
    return found


def some_of(source, low, high):
    """A number of the range, at its ends more often."""
    kind = source.random()
    if kind < 0.4:
        return source.choice((low, high))
    return source.randint(max(low, -6), min(high, 6)) if kind < 0.7 and low <= 6 and high >= -6 else \
        source.randint(low, high)


def some_state(source, controller):
    return (source.randrange(len(controller[4])), tuple(some_of(source, keep[1], keep[2]) for keep in controller[2]))


def some_readings(source, controller):
    return tuple(some_of(source, low, high) for _, low, high in controller[1])


