"""Where the numbers of a loop stand in the rows of its chart, and what is told of them by rows.

A telling is a pair (ROW, NUMBER) over the numbers of a standing and, behind them, those that come.
"""

from safehelms.exact import opposite, product_of, total
from safehelms.rows import unit_row


class Frame:
    """The places in a row of a loop's numbers: X, what waits, U, KEEPS; of those that come: NOISE, READINGS."""

    def __init__(self, loop):
        plant, controller = loop
        self.many = len(plant[1])
        self.sensors = len(plant[3])
        self.waiting = self.many
        self.drive = self.waiting + plant[4] * self.sensors
        self.keeps = self.drive + 1
        self.size = self.keeps + len(controller[2])
        self.readings = self.size + self.many
        self.width = self.readings + self.sensors
        # What is heard comes in this very step, or has waited longest.
        self.heard = self.readings if plant[4] == 0 else self.waiting
        self.formed = tuple(range(self.keeps, self.size)) + tuple(range(self.heard, self.heard + self.sensors))


def number_at(frame, place):
    """The telling of the number at this place."""
    return (unit_row(frame.width, place, 1), (0, 1))


def numbers_from(frame, place, many):
    """The list of the tellings of so many numbers from this place on."""
    return [number_at(frame, place + k) for k in range(many)]


def constant_at(frame, number):
    """The telling of a fraction, whatever the numbers are."""
    return (((0, 1),) * frame.width, number)


def form_at(frame, form):
    """The telling of a form over the keeps and what is heard."""
    row = [(0, 1)] * frame.width
    for place, factor in zip(frame.formed, form[0]):
        row[place] = (factor, 1)
    return (tuple(row), (form[1], 1))


def weighed_at(frame, factors, tellings):
    """The telling of the sum of the factors times the tellings."""
    row = tuple([product_of(factors, [told[0][place] for told in tellings]) for place in range(frame.width)])
    return (row, product_of(factors, [told[1] for told in tellings]))


def up_to(telling, bound):
    """The wish that what is told is up to the bound."""
    row, number = telling
    return (row, total(bound, opposite(number)))


def from_on(telling, bound):
    """The wish that what is told is from the bound on."""
    row, number = telling
    return (tuple([opposite(factor) for factor in row]), total(number, opposite(bound)))


def between(telling, pair):
    """The wishes that what is told is up to HIGH, and from LOW on, of a pair (LOW, HIGH)."""
    return (up_to(telling, pair[1]), from_on(telling, pair[0]))
