"""The checker: claims and their papers, multiplied out and done step by step; nothing is sought."""

from safehelms.branches import branches_of
from safehelms.breaks import is_breaking
from safehelms.cases import chart_of
from safehelms.charts import is_chart
from safehelms.controllers import is_controller, is_right_state
from safehelms.doing import told_step
from safehelms.errors import TooMany
from safehelms.exact import is_fraction, is_index, is_tuple_of, is_up_to, is_whole, product_of
from safehelms.forms import form_worth
from safehelms.loops import are_wholes, begun_at, is_loop, is_safe_in, is_within, standings_by
from safehelms.lots import is_inside, is_lot
from safehelms.machine import ended, wrong_row
from safehelms.papers import shows
from safehelms.rows import is_row_of
from safehelms.shapes import head_of
from safehelms.tables import takes


def is_bound_asked(parts):
    """Whether the parts are a lot, a row and a bound."""
    return len(parts) == 3 and is_lot(parts[0]) and is_row_of(parts[0][0], parts[1]) and is_fraction(parts[2])


def shows_in(parts, paper):
    """Whether the paper shows that the row's product is up to the bound for all that lies in the lot."""
    return is_bound_asked(parts) and shows(parts[0], parts[1], parts[2], paper)


def shows_not_in(parts, paper):
    """Whether the paper lies in the lot and breaks the bound."""
    if not is_bound_asked(parts) or not is_point_in(parts[0], paper):
        return False
    return not is_up_to(product_of(parts[1], paper), parts[2])


def is_point_in(lot, value):
    """Whether a value is a row that lies in the lot."""
    return is_row_of(lot[0], value) and is_inside(lot, value)


def shows_void(parts, paper):
    """Whether the paper is weights by which the lot is void."""
    if len(parts) != 1 or not is_lot(parts[0]):
        return False
    noughts = ((0, 1),) * parts[0][0]
    return shows(parts[0], noughts, (0, 1), ("void", paper))


def shows_some(parts, paper):
    """Whether the paper is a row that lies in the lot."""
    return len(parts) == 1 and is_lot(parts[0]) and is_point_in(parts[0], paper)


def shows_safe(parts, paper):
    """Whether the paper is a table paper for the chart."""
    return len(parts) == 1 and is_chart(parts[0]) and takes(parts[0], paper)


def shows_broken(parts, paper):
    """Whether the paper is a breaking row of the chart."""
    return len(parts) == 1 and is_chart(parts[0]) and is_breaking(parts[0], paper)


def is_step_asked(controller, state, readings):
    """Whether these are a controller, a state of it, and readings."""
    if not is_controller(controller) or not is_right_state(controller, state):
        return False
    return are_wholes(len(controller[1]), readings)


def shows_step(parts, paper):
    """Whether the step tells this command and this state; the paper is ()."""
    if not is_tuple_of(paper, 0, 0) or len(parts) != 5 or not is_step_asked(parts[0], parts[1], parts[2]):
        return False
    controller, state, readings, command, then = parts
    if not is_whole(command) or not is_right_state(controller, then):
        return False
    return told_step(controller, state, readings) == ("step", command, then)


def shows_leaves(parts, paper):
    """Whether the step leaves at this place; the paper is ()."""
    if not is_tuple_of(paper, 0, 0) or len(parts) != 4 or not is_step_asked(parts[0], parts[1], parts[2]):
        return False
    controller, state, readings, place = parts
    if not isinstance(place, tuple) or not all(is_whole(index) for index in place):
        return False
    return told_step(controller, state, readings) == ("leaves", place)


def shows_branch(parts, paper):
    """Whether this branch's guard holds at the numbers; the paper is ()."""
    if not is_tuple_of(paper, 0, 0) or len(parts) != 4 or not is_controller(parts[0]):
        return False
    controller, phase, numbers, index = parts
    if not is_index(phase, len(controller[4])) or not are_wholes(len(controller[2] + controller[1]), numbers):
        return False
    branches = branches_of(controller, phase)
    return is_index(index, len(branches)) and all(form_worth(form, numbers) >= 0 for form in branches[index][0])


def shows_does(parts, paper):
    """Whether the program does this step, if it is one that does not leave; the paper is ()."""
    if not is_tuple_of(paper, 0, 0) or len(parts) != 5 or not is_step_asked(parts[0], parts[3], parts[4]):
        return False
    controller, program, layout, state, readings = parts
    # A program's words are those of the machine that does it, so of the controller's width.
    if not is_tuple_of(program, 1, 2000) or wrong_row(controller[0], program) is not None:
        return False
    if not is_layout(controller, layout):
        return False
    told = told_step(controller, state, readings)
    return told[0] == "leaves" or told_by_program(controller, program, layout, state, readings) == told[1:]


def is_layout(controller, value):
    """Whether a value is a tuple (READINGS, KEEPS, PHASE, COMMAND) of unlike indexes of cells."""
    if not is_tuple_of(value, 4, 4):
        return False
    if not are_wholes(len(controller[1]), value[0]) or not are_wholes(len(controller[2]), value[1]):
        return False
    cells = value[0] + value[1] + value[2:]
    return all(is_index(cell, 128) for cell in cells) and len(set(cells)) == len(cells)


def told_by_program(controller, program, layout, state, readings):
    """The pair of what stands in the cells of the command and of the state in the end, begun with 0 in all others."""
    heard, kept, phase_cell, command_cell = layout
    cells = [0] * 128
    for cell, word in zip(heard + kept + (phase_cell,), readings + state[1] + (state[0],)):
        cells[cell] = word
    words = ended(controller[0], program, cells)
    return (words[command_cell], (words[phase_cell], tuple([words[cell] for cell in kept])))


def shows_loop_safe(parts, paper):
    """Whether the paper is a table paper for the loop's chart."""
    if len(parts) != 1 or not is_loop(parts[0]):
        return False
    try:
        chart = chart_of(parts[0])
    except TooMany:
        return False
    return takes(chart, paper)


def shows_loop_broken(parts, paper):
    """Whether the paper is a history of the loop whose last standing is not safe."""
    if len(parts) != 1 or not is_loop(parts[0]) or not is_tuple_of(paper, 2, 2):
        return False
    loop, (state, rows) = parts[0], paper
    if not is_within(loop[0][2], state) or not isinstance(rows, tuple):
        return False
    standings = standings_by(loop, begun_at(loop, state), rows)
    return len(standings) == len(rows) + 1 and not is_safe_in(loop, standings[-1])


CLAIMS = {"in": shows_in, "not in": shows_not_in, "void": shows_void, "some": shows_some, "safe": shows_safe,
          "broken": shows_broken, "step": shows_step, "leaves": shows_leaves, "branch": shows_branch,
          "does": shows_does, "loop safe": shows_loop_safe, "loop broken": shows_loop_broken}


def accepts(claim, paper):
    """Whether the claim is one for the checker, and the paper one for it, whatever both are."""
    head = head_of(claim)
    if head not in CLAIMS:
        return False
    judge = CLAIMS[head]
    return judge(claim[1:], paper)
