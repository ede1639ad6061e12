"""What the tests work out by themselves, with Python's own fractions, and what they share."""

import unittest
from fractions import Fraction
from math import gcd


def pair(value):
    """The fraction of a number as the package has it."""
    value = Fraction(value)
    return (value.numerator, value.denominator)


def row(*values):
    return tuple(pair(value) for value in values)


def lot(size, *wishes):
    """A lot of wishes that are told as tuples: the row's numbers, and the bound behind them."""
    return (size, tuple((row(*wish[:-1]), pair(wish[-1])) for wish in wishes))


def many_wishes(size, many):
    """A lot of so many wishes, all alike: the first number is up to 5."""
    return (size, ((row(1, *[0] * (size - 1)), pair(5)),) * many)


def num(fraction):
    return Fraction(fraction[0], fraction[1])


def dot(left, right):
    return sum((num(a) * num(b) for a, b in zip(left, right)), Fraction(0))


def lies(one_lot, point):
    return all(dot(wish, point) <= num(bound) for wish, bound in one_lot[1])


def is_lowest(value):
    return (type(value) is tuple and len(value) == 2 and type(value[0]) is int and type(value[1]) is int
            and value[1] > 0 and gcd(value[0], value[1]) == 1)


def are_lowest(size, value):
    return type(value) is tuple and len(value) == size and all(is_lowest(part) for part in value)


def weighed(one_lot, weights):
    """The sums of all weights times the rows, and times the bounds."""
    size, wishes = one_lot
    sums = [sum((num(w) * num(wish[0][at]) for w, wish in zip(weights, wishes)), Fraction(0)) for at in range(size)]
    return sums, sum((num(w) * num(wish[1]) for w, wish in zip(weights, wishes)), Fraction(0))


def nested(deep):
    """A tuple nested just so deep."""
    value = ()
    for _ in range(deep - 1):
        value = (value,)
    return value


class Bare:
    """A value of a kind that the package does not know."""


# No fraction, no row, no lot and no index of anything stands here; the deepest leaves room for tuples around it.
ODD = [None, True, False, -1, "", "bound", "lot", b"", b"ab", (), (1,), (1, 2, 3, 4, 5, 6, 7), [], [1, 2], {},
       {"a": 1}, set(), {1, 2}, frozenset(), range(2), 2j, Bare(), Bare, len, lambda: 0, nested(30), Fraction(1, 2),
       ..., -10 ** 300]

# Each of them is no fraction, though most are close to one.
NO_FRACTIONS = ODD + [0, 1, (0, 0), (1, 0), (0, 2), (0, -1), (2, 4), (2, 2), (-2, 2), (1, -1), (-1, -2), (True, 1),
                      (1, True), (False, 1), [0, 1], [1, 2], (1, 2, 3), (1,), ("1", 1), (1, "1"), ("1", "2"),
                      (None, 1), (1, None), ((1, 1), 1), (1, (1, 1)), (6, 9), (10 ** 200, 10 ** 100), "1/2",
                      (Fraction(1), 1)]


class HelmCase(unittest.TestCase):
    """Tests that know the errors and the papers of the document."""

    def fails(self, error, told, call, *args, **named):
        """The call raises just this error: `told` is its attribute, index or given, as a pair of name and value."""
        with self.assertRaises(error) as caught:
            call(*args, **named)
        self.assertIs(type(caught.exception), error)
        if told is not None:
            self.assertEqual(list(vars(caught.exception)), [told[0]])
            value = getattr(caught.exception, told[0])
            if told[0] == "given":
                self.assertIs(value, told[1])
            else:
                self.assertEqual((type(value), value), (type(told[1]), told[1]))

    def fails_given(self, error, given, call, *args, **named):
        self.fails(error, ("given", given), call, *args, **named)

    def fails_at(self, error, index, call, *args, **named):
        self.fails(error, ("index", index), call, *args, **named)

    def assert_weights(self, one_lot, weights):
        self.assertTrue(are_lowest(len(one_lot[1]), weights), weights)
        self.assertTrue(all(weight[0] >= 0 for weight in weights), weights)

    def assert_void_weights(self, one_lot, weights):
        self.assert_weights(one_lot, weights)
        sums, bound = weighed(one_lot, weights)
        self.assertEqual(sums, [0] * one_lot[0])
        self.assertLess(bound, 0)

    def assert_paper(self, one_lot, wish, bound, paper):
        self.assertIs(type(paper), tuple)
        self.assertEqual(len(paper), 2)
        self.assertIn(paper[0], ("bound", "void"))
        if paper[0] == "void":
            self.assert_void_weights(one_lot, paper[1])
        else:
            self.assert_weights(one_lot, paper[1])
            sums, least = weighed(one_lot, paper[1])
            self.assertEqual(sums, [num(number) for number in wish])
            self.assertLessEqual(least, num(bound))

    def assert_greatest(self, one_lot, wish, told):
        """What is told of the greatest product shows itself; the kind is told on."""
        self.assertIs(type(told), tuple)
        size = one_lot[0]
        if told[0] == "void":
            self.assertEqual(len(told), 2)
            self.assert_void_weights(one_lot, told[1])
        elif told[0] == "endless":
            self.assertEqual(len(told), 3)
            point, ray = told[1:]
            self.assertTrue(are_lowest(size, point) and are_lowest(size, ray), told)
            self.assertTrue(lies(one_lot, point), told)
            self.assertTrue(all(dot(each, ray) <= 0 for each, _ in one_lot[1]), told)
            self.assertGreater(dot(wish, ray), 0)
        else:
            self.assertEqual((told[0], len(told)), ("greatest", 4))
            number, point, weights = told[1:]
            self.assertTrue(is_lowest(number) and are_lowest(size, point), told)
            self.assertTrue(lies(one_lot, point), told)
            self.assertEqual(dot(wish, point), num(number))
            self.assert_paper(one_lot, wish, number, ("bound", weights))
        return told[0]


def random_lot(source, size, many, reach, parts):
    """A lot of random wishes: numbers up to `reach` by parts up to `parts`; some bounds are 0, some wishes 0 alone."""
    def some():
        return Fraction(source.randint(-reach, reach), source.randint(1, parts))

    def wish():
        numbers = [0] * size if source.random() < 0.05 else [some() for _ in range(size)]
        return (*numbers, 0 if source.random() < 0.3 else some() + source.choice((0, reach)))

    return lot(size, *[wish() for _ in range(many)])
