"""Loops that are shown: three that the judge lets by, and three that it does not, with runs that break them."""

from safehelms.cases import chart_of
from safehelms.errors import InvalidName
from safehelms.histories import history_of
from safehelms.plants import plant_of
from safehelms.search import settled
from safehelms.texts import controller_of

NAMES = ("brake", "lift", "tank")

# A brake has a gap, which what drives ahead may make greater, and a speed that lags behind what it is told, more so
# where the ground is wet. A lift has a height; loaded it rises less and sinks more. A tank has a level; it leaks.
PLANTS = {
    "brake": ("numbers 2\nmode : 1 -1 0 0 : 0 1/2 1/2 0\nmode : 1 -1 0 0 : 0 3/4 1/4 0\nnoise 0 1\nnoise 0 0\n"
              "start 16 20\nstart 0 2\nsensor 1 0 -1/2 1/2 18\ndelay 0\ndrive 0 2 0 1 0\nsafe -1 0 0\nsafe 0 1 2\n"),
    "lift": ("numbers 1\nmode : 1 1 0\nmode : 1 3/4 -1/8\nnoise -1/8 1/8\nstart 6 10\nsensor 1 -1/2 1/2 8\n"
             "delay 1\ndrive -2 2 0 0 0\nsafe 1 20\nsafe -1 0\n"),
    "tank": ("numbers 1\nmode : 7/8 3 0\nmode : 3/4 3 0\nnoise 0 2\nstart 0 60\nsensor 1 -1 1 50\n"
             "delay 0\ndrive 0 5 0 0 1\nsafe 1 95\nsafe -1 0\n"),
}
CONTROLLERS = {
    "brake": "word 8 in gap -8 40 out 0 2 phase only out clamp less gap 12 0 2 end",
    "lift": ("word 8 in height -5 25 out -2 2"
             " phase up if above height 14 out -2 go down else out 2 end end"
             " phase down if above 6 height out 2 go up else out -2 end end"),
    "tank": ("word 8 in level -8 100 keep count 0 5 0 1 out 0 5"
             " phase fill if above level 80 out 0 go rest else out 5 set count least add count 1 5 end end"
             " phase rest out 0 if from 40 level go fill end end"),
}

# The row of a plant that is another one in the loop that is refused: the controller is the same.
WORSE = {
    "brake": ("drive 0 2 0 1 0\n", "drive 0 2 0 2 0\n"),
    "lift": ("drive -2 2 0 0 0\n", "drive -2 2 0 1 0\n"),
    "tank": ("delay 0\n", "delay 2\n"),
}
BREAKING = {
    "brake": ("begin 35/2 2\nstep 1 0 0 0 0 18\nstep 1 0 0 0 0 16\nstep 1 0 0 0 0 14\nstep 1 1 0 0 0 11\n"
              "step 1 1 0 0 0 9\nstep 1 0 0 0 0 7\nstep 1 0 0 0 0 5\nstep 1 0 0 0 0 4\nstep 1 0 0 0 0 3\n"
              "step 1 0 0 0 0 2\nstep 1 0 0 0 0 1\nstep 1 0 0 0 0 1\nstep 1 0 0 0 0 1\nstep 1 0 0 0 0 0\n"
              "step 1 0 0 0 0 0\n"),
    "lift": ("begin 10\nstep 0 0 0 -1/8 10\nstep 0 0 0 -1/8 12\nstep 0 0 0 1/8 14\nstep 0 0 0 1/8 16\n"
             "step 0 1 0 1/8 18\n"),
    "tank": "begin 60\nstep 0 0 0 0 59\nstep 0 0 0 2 67\nstep 0 0 0 2 76\nstep 0 0 0 2 83\nstep 0 0 0 2 90\n",
}

# Directions by which a table is found: of gap, speed and drive; of height, what waits and drive; of level, drive
# and count.
PATIENCE = 6
DIRECTIONS = {
    "brake": ((0, 1, 0), (0, -1, 0), (0, 0, 1), (0, 0, -1), (-1, 4, 0), (-1, 4, 1), (-1, 3, 2), (1, -4, 0),
              (1, -4, -1), (1, -3, -2)),
    "lift": ((1, 0, 0), (-1, 0, 0), (0, 1, 0), (0, -1, 0), (1, -1, 0), (-1, 1, 0)),
    "tank": ((1, 0, 0), (-1, 0, 0), (0, 0, 1), (0, 0, -1)),
}


def shown_names():
    """The names of the loops that are shown, in order."""
    return NAMES


def shown(name):
    """The loop of this name that the judge lets by."""
    check_name(name)
    return (plant_of(PLANTS[name]), controller_of(CONTROLLERS[name]))


def refused(name):
    """A triple (LOOP, X, ROWS): the loop of this name that the judge does not let by, and a run that breaks it."""
    check_name(name)
    row, worse = WORSE[name]
    loop = (plant_of(PLANTS[name].replace(row, worse)), controller_of(CONTROLLERS[name]))
    return (loop,) + history_of(loop, BREAKING[name])


def shown_paper(name):
    """A table paper for the chart of the loop of this name that the judge lets by."""
    check_name(name)
    directions = tuple([tuple([(number, 1) for number in row]) for row in DIRECTIONS[name]])
    return settled(chart_of(shown(name)), directions, PATIENCE)[1]


def is_shown(name):
    """Whether a value is the name of a loop that is shown."""
    return isinstance(name, str) and name in NAMES


def check_name(name):
    """Raise InvalidName for what is none of the names."""
    if not is_shown(name):
        raise InvalidName(name)
