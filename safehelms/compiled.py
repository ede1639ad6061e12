"""Controllers as programs of the machine: any controller, its program, and what its cells hold."""

from safehelms.controllers import check_controller, check_step, is_right_state
from safehelms.errors import InvalidCells
from safehelms.exact import is_tuple_of
from safehelms.machine import check_words
from safehelms.making import layout_of, made_program, many_cells
from safehelms.words import wrapped_word


def program_of(controller):
    """A pair: a program that does the controller, and its layout (READINGS, KEEPS, PHASE, COMMAND)."""
    check_controller(controller)
    return (made_program(controller), layout_of(controller))


def cells_for(controller, state, readings):
    """The cells with which the controller's program is begun; there are as many for all states and readings."""
    check_step(controller, state, readings)
    heard, kept, phase_cell, _ = layout_of(controller)
    cells = [0] * many_cells(controller)
    for cell, number in zip(heard + kept + (phase_cell,), readings + state[1] + (state[0],)):
        cells[cell] = wrapped_word(controller[0], number)
    return tuple(cells)


def told_by(controller, cells):
    """The pair of the command and the state that stand in the cells; None if there is no state."""
    check_controller(controller)
    many = many_cells(controller)
    if not is_tuple_of(cells, many, many):
        raise InvalidCells(None)
    check_words(controller[0], cells)
    _, kept, phase_cell, command_cell = layout_of(controller)
    state = (cells[phase_cell], tuple([cells[cell] for cell in kept]))
    return (cells[command_cell], state) if is_right_state(controller, state) else None
