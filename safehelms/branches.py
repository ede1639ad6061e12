"""Branches of controllers: guards, wishes and what is told, all as forms over the keeps and the inputs."""

from safehelms.controllers import check_controller, check_step
from safehelms.errors import InvalidForm, InvalidNumber, InvalidNumbers
from safehelms.exact import is_index, is_tuple_of, is_whole
from safehelms.forms import form_worth, is_form
from safehelms.parting import all_branches


def branches_of(controller, phase):
    """The tuple of the phase's branches (GUARD, WISHES, KEEPS, COMMAND, PHASE), in order."""
    check_controller(controller)
    if not is_index(phase, len(controller[4])):
        raise InvalidNumber(phase)
    return all_branches(controller, phase)


def worth_of(form, numbers):
    """The form's worth at the numbers."""
    if not is_form(form):
        raise InvalidForm(form)
    many = len(form[0])
    if not is_tuple_of(numbers, many, many):
        raise InvalidNumbers(None)
    for index, number in enumerate(numbers):
        if not is_whole(number):
            raise InvalidNumbers(index)
    return form_worth(form, numbers)


def branch_at(controller, state, readings):
    """The index of the branch whose guard holds, for readings out of their ranges, too."""
    check_step(controller, state, readings)
    return held_at(all_branches(controller, state[0]), state[1] + readings)


def held_at(branches, numbers):
    """The index of the first branch whose guard holds at the numbers; there is just one."""
    for index, branch in enumerate(branches):
        if all(form_worth(form, numbers) >= 0 for form in branch[0]):
            return index
    return None


def branch_step(controller, state, readings):
    """What the branch tells: ("step", COMMAND, STATE) or ("leaves", PLACE)."""
    check_step(controller, state, readings)
    branches, numbers = all_branches(controller, state[0]), state[1] + readings
    _, wishes, keeps, command, phase = branches[held_at(branches, numbers)]
    for place, form in wishes:
        if form_worth(form, numbers) < 0:
            return ("leaves", place)
    return ("step", form_worth(command, numbers), (phase, tuple([form_worth(form, numbers) for form in keeps])))
