"""Steps of controllers: what a block does, statement by statement, with numbers."""

from safehelms.exact import is_whole
from safehelms.words import is_word


class Doing:
    """A step while it is done: the numbers that names have just now, what was told, and where it left, if it did."""

    def __init__(self, controller, phase, numbers):
        self.width = controller[0]
        self.ranges = {keep[0]: (keep[1], keep[2]) for keep in controller[2]}
        self.out = controller[3]
        self.phases = [name for name, _ in controller[4]]
        self.numbers = numbers
        self.command = None
        self.phase = phase
        self.left_at = None


def told_step(controller, state, readings):
    """What the step tells: ("step", COMMAND, STATE) or ("leaves", PLACE); all arguments are right."""
    _, inputs, keeps, _, phases = controller
    for (_, low, high), reading in zip(inputs, readings):
        if not low <= reading <= high:
            return ("leaves", ())
    numbers = {keep[0]: number for keep, number in zip(keeps, state[1])}
    for (name, _, _), reading in zip(inputs, readings):
        numbers[name] = reading
    doing = Doing(controller, state[0], numbers)
    if not does_block(doing, phases[state[0]][1], ()):
        return ("leaves", doing.left_at)
    return ("step", doing.command, (doing.phase, tuple([doing.numbers[keep[0]] for keep in keeps])))


def does_block(doing, block, place):
    """Do the statements of the block; whether the step did not leave."""
    for index, statement in enumerate(block):
        if not does(doing, statement, place + (index,)):
            return False
    return True


def does(doing, statement, place):
    """Do the statement; whether the step did not leave."""
    if statement[0] == "if":
        so = holds(doing, statement[1], place + (1,))
        if so is None:
            return False
        return does_block(doing, statement[2 if so else 3], place + (2 if so else 3,))
    if statement[0] == "go":
        doing.phase = doing.phases.index(statement[1])
        return True
    last = len(statement) - 1
    number = number_of(doing, statement[last], place + (last,))
    if number is None:
        return False
    if statement[0] == "out":
        doing.command = number
        return is_kept_in(doing, number, doing.out, place)
    name = statement[1]
    doing.numbers[name] = number
    return name not in doing.ranges or is_kept_in(doing, number, doing.ranges[name], place)


def is_kept_in(doing, number, pair, place):
    """Whether the number is in its range (LOW, HIGH); if not, the step leaves at the place."""
    if pair[0] <= number <= pair[1]:
        return True
    doing.left_at = place
    return False


def number_of(doing, value, place):
    """The sum's number; None if the step leaves."""
    if is_whole(value):
        return value
    if isinstance(value, str):
        return doing.numbers[value]
    if value[0] == "clamp":
        number = number_of(doing, value[1], place + (1,))
        return None if number is None else min(max(number, value[2]), value[3])
    if value[0] == "times":
        number = number_of(doing, value[2], place + (2,))
        return None if number is None else as_word(doing, value[1] * number, place)
    two = two_numbers(doing, value, place)
    if two is None:
        return None
    if value[0] == "add":
        return as_word(doing, two[0] + two[1], place)
    if value[0] == "less":
        return as_word(doing, two[0] - two[1], place)
    return min(two[0], two[1]) if value[0] == "least" else max(two[0], two[1])


def two_numbers(doing, value, place):
    """The numbers of the two sums behind the word of a sum or a condition; None if the step leaves."""
    one = number_of(doing, value[1], place + (1,))
    other = None if one is None else number_of(doing, value[2], place + (2,))
    return None if other is None else (one, other)


def as_word(doing, number, place):
    """The number; None, and the step leaves at the place, if it is no word."""
    if is_word(doing.width, number):
        return number
    doing.left_at = place
    return None


def holds(doing, value, place):
    """Whether the condition is so; None if the step leaves."""
    if value[0] == "not":
        so = holds(doing, value[1], place + (1,))
        return None if so is None else not so
    if value[0] in ("and", "or"):
        so = holds(doing, value[1], place + (1,))
        if so is None or so == (value[0] == "or"):
            return so
        return holds(doing, value[2], place + (2,))
    two = two_numbers(doing, value, place)
    if two is None:
        return None
    if value[0] == "same":
        return two[0] == two[1]
    return two[0] >= two[1] if value[0] == "from" else two[0] > two[1]
