"""Branches of controllers: what a block does with forms in the place of numbers, parted wherever numbers decide."""

from safehelms.exact import is_whole
from safehelms.forms import constant_form, form_less, form_sum, form_times, unit_form
from safehelms.words import greatest_word, least_word


class Thread:
    """One of the ways into which a block is parted, so far: its guard, its wishes, and what was set and told."""

    def __init__(self, guard, wishes, forms, command, phase):
        self.guard = guard
        self.wishes = wishes
        self.forms = forms
        self.command = command
        self.phase = phase


class Parting:
    """What all threads of a controller share."""

    def __init__(self, controller):
        width, inputs, keeps, out, phases = controller
        self.many = len(keeps) + len(inputs)
        self.words = (least_word(width), greatest_word(width))
        self.ranges = {keep[0]: (keep[1], keep[2]) for keep in keeps}
        self.out = out
        self.phases = [name for name, _ in phases]


def all_branches(controller, phase):
    """The tuple of the branches of a right controller's phase."""
    _, inputs, keeps, _, phases = controller
    parting = Parting(controller)
    forms = {part[0]: unit_form(parting.many, place) for place, part in enumerate(keeps + inputs)}
    thread = Thread((), (), forms, None, phase)
    for name, low, high in inputs:
        thread = with_range(thread, (), forms[name], (low, high))
    threads = parted_by_block(parting, [thread], phases[phase][1], ())
    return tuple([(one.guard, one.wishes, tuple([one.forms[keep[0]] for keep in keeps]), one.command, one.phase)
                  for one in threads])


def with_guard(thread, forms):
    """The thread with these forms more in its guard."""
    return Thread(thread.guard + forms, thread.wishes, thread.forms, thread.command, thread.phase)


def with_range(thread, place, form, pair):
    """The thread with the wishes more that the form is in its range (LOW, HIGH)."""
    many = len(form[0])
    low, high = constant_form(many, pair[0]), constant_form(many, pair[1])
    wishes = ((place, form_less(form, low, 0)), (place, form_less(high, form, 0)))
    return Thread(thread.guard, thread.wishes + wishes, thread.forms, thread.command, thread.phase)


# What parts threads tells a list of what becomes of each of them, in the place of the thread: so all branches of a
# first part stand ahead of those of the next one.

def parted_by_block(parting, threads, block, place):
    """The list of the threads behind the block, by those ahead of it."""
    for index, statement in enumerate(block):
        found = []
        for thread in threads:
            found.extend(parted_by(parting, thread, statement, place + (index,)))
        threads = found
    return threads


def parted_by(parting, thread, statement, place):
    """The list of the threads behind the statement."""
    if statement[0] == "if":
        found = []
        for one, so in parted_by_condition(parting, thread, statement[1], place + (1,)):
            at = 2 if so else 3
            found.extend(parted_by_block(parting, [one], statement[at], place + (at,)))
        return found
    if statement[0] == "go":
        phase = parting.phases.index(statement[1])
        return [Thread(thread.guard, thread.wishes, thread.forms, thread.command, phase)]
    last = len(statement) - 1
    told = parted_by_sum(parting, thread, statement[last], place + (last,))
    if statement[0] == "out":
        return [with_command(parting, one, form, place) for one, form in told]
    return [with_set(parting, one, statement[1], form, place) for one, form in told]


def with_command(parting, thread, form, place):
    """The thread, the form told as its command."""
    wished = with_range(thread, place, form, parting.out)
    return Thread(wished.guard, wished.wishes, wished.forms, form, wished.phase)


def with_set(parting, thread, name, form, place):
    """The thread, the name set to the form."""
    if name in parting.ranges:
        thread = with_range(thread, place, form, parting.ranges[name])
    return Thread(thread.guard, thread.wishes, {**thread.forms, name: form}, thread.command, thread.phase)


def parted_by_sum(parting, thread, value, place):
    """The list of pairs of a thread and the sum's form in it."""
    if is_whole(value):
        return [(thread, constant_form(parting.many, value))]
    if isinstance(value, str):
        return [(thread, thread.forms[value])]
    found = []
    if value[0] == "clamp":
        for one, form in parted_by_sum(parting, thread, value[1], place + (1,)):
            found.extend(parted_by_clamp(one, form, value[2], value[3]))
    elif value[0] == "times":
        for one, form in parted_by_sum(parting, thread, value[2], place + (2,)):
            found.append(as_word_form(parting, one, form_times(value[1], form), place))
    else:
        for one, left, right in parted_by_two(parting, thread, value, place):
            found.extend(joined(parting, value[0], one, left, right, place))
    return found


def parted_by_two(parting, thread, value, place):
    """The list of triples of a thread and the forms of the two sums behind the word of a sum or a condition."""
    found = []
    for one, left in parted_by_sum(parting, thread, value[1], place + (1,)):
        for other, right in parted_by_sum(parting, one, value[2], place + (2,)):
            found.append((other, left, right))
    return found


def joined(parting, word, thread, left, right, place):
    """The list of pairs of a thread and the form that the word makes of two."""
    if word == "add":
        return [as_word_form(parting, thread, form_sum(left, right), place)]
    if word == "less":
        return [as_word_form(parting, thread, form_less(left, right, 0), place)]
    if word == "least":
        return [(with_guard(thread, (form_less(right, left, 0),)), left),
                (with_guard(thread, (form_less(left, right, 1),)), right)]
    return [(with_guard(thread, (form_less(left, right, 0),)), left),
            (with_guard(thread, (form_less(right, left, 1),)), right)]


def as_word_form(parting, thread, form, place):
    """The pair of the thread, with the wishes that the form is a word, and the form."""
    return (with_range(thread, place, form, parting.words), form)


def parted_by_clamp(thread, form, least, most):
    """The list of pairs of a thread and the form brought from `least` up to `most`."""
    low, high = constant_form(len(form[0]), least), constant_form(len(form[0]), most)
    within = (form_less(form, low, 0), form_less(high, form, 0))
    return [(with_guard(thread, (form_less(low, form, 1),)), low),
            (with_guard(thread, (form_less(form, high, 1),)), high), (with_guard(thread, within), form)]


def parted_by_condition(parting, thread, value, place):
    """The list of pairs of a thread and whether the condition is so in it."""
    if value[0] == "not":
        return [(one, not so) for one, so in parted_by_condition(parting, thread, value[1], place + (1,))]
    found = []
    if value[0] in ("and", "or"):
        for one, so in parted_by_condition(parting, thread, value[1], place + (1,)):
            if so == (value[0] == "or"):
                found.append((one, so))
            else:
                found.extend(parted_by_condition(parting, one, value[2], place + (2,)))
        return found
    for one, left, right in parted_by_two(parting, thread, value, place):
        found.extend(compared(value[0], one, left, right))
    return found


def compared(word, thread, left, right):
    """The list of pairs of a thread and whether what the word asks of two forms is so in it."""
    if word == "from":
        return [(with_guard(thread, (form_less(left, right, 0),)), True),
                (with_guard(thread, (form_less(right, left, 1),)), False)]
    above, below = (form_less(left, right, 1),), (form_less(right, left, 1),)
    if word == "above":
        return [(with_guard(thread, above), True), (with_guard(thread, (form_less(right, left, 0),)), False)]
    alike = (form_less(left, right, 0), form_less(right, left, 0))
    return [(with_guard(thread, alike), True), (with_guard(thread, above), False), (with_guard(thread, below), False)]
