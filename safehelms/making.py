"""Programs that do controllers, made row by row: each sum is worked out into a cell of its own."""

from safehelms.exact import is_whole

# A block sets at most 12 locals; the two sums of a condition, each at most 6 deep, need at most 7 cells.
LOCAL_CELLS = 12
SUM_CELLS = 7


class Maker:
    """The rows made so far; a row that leads on names a mark, and marks are brought to rows at the end."""

    def __init__(self, cell_of, phases, phase_cell):
        self.rows = []
        self.marked = []
        self.cell_of = cell_of
        self.local_cells = {}
        self.phases = phases
        self.phase_cell = phase_cell
        self.command_cell = phase_cell + 1
        self.first_local = phase_cell + 2
        self.first_sum = phase_cell + 2 + LOCAL_CELLS


def layout_of(controller):
    """The layout (READINGS, KEEPS, PHASE, COMMAND): the first cells, in this order."""
    inputs, both = len(controller[1]), len(controller[1]) + len(controller[2])
    return (tuple(range(inputs)), tuple(range(inputs, both)), both, both + 1)


def many_cells(controller):
    """How many cells the controller's program has."""
    return layout_of(controller)[3] + 1 + LOCAL_CELLS + SUM_CELLS


def made_program(controller):
    """A program that does a right controller with its layout."""
    _, inputs, keeps, _, phases = controller
    readings, kept, phase_cell, _ = layout_of(controller)
    cell_of = {part[0]: cell for part, cell in zip(inputs + keeps, readings + kept)}
    maker = Maker(cell_of, [name for name, _ in phases], phase_cell)
    for index, (_, block) in enumerate(phases):
        make_phase(maker, index, block)
    return tuple([led_to_rows(maker, row) for row in maker.rows])


def make_phase(maker, index, block):
    """Rows that do the phase's block and stop; where the phase is a later one, they are left out."""
    later = new_mark(maker)
    # Behind the last phase there is none, so it is not asked for.
    if index < len(maker.phases) - 1:
        maker.rows.append(("put", maker.first_sum, index))
        maker.rows.append(("below", maker.first_sum, maker.phase_cell, later))
    maker.local_cells = {}
    make_block(maker, block)
    maker.rows.append(("stop",))
    set_mark(maker, later)


def new_mark(maker):
    """A mark that is not yet brought to a row."""
    maker.marked.append(None)
    return len(maker.marked) - 1


def set_mark(maker, mark):
    """Bring the mark to the row that comes next."""
    maker.marked[mark] = len(maker.rows)


def led_to_rows(maker, row):
    """The row with its mark's row in the place of the mark, if it leads on."""
    if row[0] in ("jump", "below"):
        return row[:-1] + (maker.marked[row[-1]],)
    return row


def make_block(maker, block):
    """Rows that do the statements of the block."""
    for statement in block:
        if statement[0] == "if":
            make_if(maker, statement)
        elif statement[0] == "go":
            maker.rows.append(("put", maker.phase_cell, maker.phases.index(statement[1])))
        else:
            make_sum(maker, statement[-1], maker.first_sum)
            cell = maker.command_cell if statement[0] == "out" else cell_to_set(maker, statement[1])
            maker.rows.append(("copy", cell, maker.first_sum))


def make_if(maker, statement):
    """Rows that do the one block or the other, as the condition is."""
    so, otherwise, behind = new_mark(maker), new_mark(maker), new_mark(maker)
    make_condition(maker, statement[1], so, otherwise)
    set_mark(maker, so)
    make_block(maker, statement[2])
    maker.rows.append(("jump", behind))
    set_mark(maker, otherwise)
    make_block(maker, statement[3])
    set_mark(maker, behind)


def cell_to_set(maker, name):
    """The cell of a name that is set; a local that has none gets the next one."""
    if name in maker.cell_of:
        return maker.cell_of[name]
    if name not in maker.local_cells:
        maker.local_cells[name] = maker.first_local + len(maker.local_cells)
    return maker.local_cells[name]


def make_sum(maker, value, cell):
    """Rows that bring the sum's number to the cell; those in front of it stay, those behind it are free."""
    if is_whole(value):
        maker.rows.append(("put", cell, value))
    elif isinstance(value, str):
        maker.rows.append(("copy", cell, cell_to_set(maker, value)))
    elif value[0] == "clamp":
        make_sum(maker, value[1], cell)
        maker.rows.append(("put", cell + 1, value[2]))
        make_choice(maker, cell + 1, cell, cell)
        maker.rows.append(("put", cell + 1, value[3]))
        make_choice(maker, cell, cell + 1, cell)
    elif value[0] == "times":
        make_sum(maker, value[2], cell)
        maker.rows.append(("times", cell, cell, value[1]))
    else:
        make_sum(maker, value[1], cell)
        make_sum(maker, value[2], cell + 1)
        if value[0] == "least":
            make_choice(maker, cell, cell + 1, cell)
        elif value[0] == "greatest":
            make_choice(maker, cell + 1, cell, cell)
        else:
            maker.rows.append((value[0], cell, cell, cell + 1))


def make_choice(maker, low, high, cell):
    """Rows that copy what stands behind the cell to it, unless the word of `low` is below that of `high`."""
    behind = new_mark(maker)
    maker.rows.append(("below", low, high, behind))
    maker.rows.append(("copy", cell, cell + 1))
    set_mark(maker, behind)


def make_condition(maker, value, so, otherwise):
    """Rows that lead on to the one mark or to the other, as the condition is."""
    if value[0] == "not":
        make_condition(maker, value[1], otherwise, so)
    elif value[0] in ("and", "or"):
        second = new_mark(maker)
        if value[0] == "and":
            make_condition(maker, value[1], second, otherwise)
        else:
            make_condition(maker, value[1], so, second)
        set_mark(maker, second)
        make_condition(maker, value[2], so, otherwise)
    else:
        make_sum(maker, value[1], maker.first_sum)
        make_sum(maker, value[2], maker.first_sum + 1)
        make_comparison(maker, value[0], so, otherwise)


def make_comparison(maker, word, so, otherwise):
    """Rows that lead on as the word asks of the numbers in the first two cells of sums."""
    one, other = maker.first_sum, maker.first_sum + 1
    # Words are compared, not taken from one another: their difference may be no word.
    if word == "above":
        maker.rows.append(("below", other, one, so))
        maker.rows.append(("jump", otherwise))
        return
    maker.rows.append(("below", one, other, otherwise))
    if word == "same":
        maker.rows.append(("below", other, one, otherwise))
    maker.rows.append(("jump", so))
