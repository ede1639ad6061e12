"""Random charts for the tests."""

from fractions import Fraction

from sums import lot, pair, row


def some_chart(source, size, coming, places, cases):
    """A chart with guards that keep what comes within bounds, most of them and some of their states, too."""
    def some(reach=2):
        return Fraction(source.randint(-reach * 2, reach * 2), source.choice((1, 2, 2, 4)))

    def some_guard():
        wishes = []
        for at in range(coming):
            unit = [1 if place == size + at else 0 for place in range(size + coming)]
            wishes += [(*unit, source.randint(0, 1)), (*[-number for number in unit], source.randint(-1, 1))]
        for _ in range(source.randint(0, 2)):
            wishes.append((*[source.randint(-1, 1) for _ in range(size + coming)], source.randint(-1, 4)))
        return lot(size + coming, *wishes)

    def some_map():
        return tuple((row(*[some(1) if source.random() < 0.6 else 0 for _ in range(size + coming)]), pair(some()))
                     for _ in range(size))

    def some_lot(many):
        return lot(size, *[(*[source.randint(-2, 2) for _ in range(size)], source.randint(-1, 5)) for _ in range(many)])

    def box():
        wishes = []
        for at in range(size):
            unit = [1 if place == at else 0 for place in range(size)]
            wishes += [(*unit, source.randint(0, 2)), (*[-number for number in unit], source.randint(0, 2))]
        return lot(size, *wishes)

    def some_start():
        return source.randrange(places), box() if source.random() < 0.7 else some_lot(source.randint(0, 3))

    return (size, coming, tuple(some_start() for _ in range(source.randint(1, 2))),
            tuple((source.randrange(places), some_guard(), some_map(), source.randrange(places))
                  for _ in range(cases)), tuple(some_lot(source.randint(0, 2)) for _ in range(places)))


def some_directions(source, size, many):
    return tuple(row(*[source.randint(-2, 2) for _ in range(size)]) for _ in range(many))
