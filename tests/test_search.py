"""Point 10: tables by directions, and what settles a chart."""

import random
import unittest
from fractions import Fraction

from chance import some_chart, some_directions
from safehelms.charts import is_chart
from safehelms.errors import InvalidChart, InvalidDirections, InvalidNumber
from safehelms.lots import box_of, greatest
from safehelms.search import settled, table_by
from safehelms.tables import is_table, open_wishes, takes, wishes
from sums import NO_FRACTIONS, ODD, HelmCase, dot, lot, num, pair, row

ONE, NIL, LESS = (1, 1), (0, 1), (-1, 1)
UP, DOWN = row(1), row(-1)
UNIT = lot(1, (1, 1), (-1, 0))
VOID = lot(1, (0, -1))
FREE = (1, ())
GO = ((row(1), NIL),)
HALVING = (1, 1, ((0, UNIT),), ((0, lot(2, (0, 1, 1), (0, -1, 0)), ((row(Fraction(1, 2), 1), NIL),), 0),),
           (lot(1, (1, 3)),))
ADDING = (1, 0, ((0, UNIT),), ((0, FREE, ((row(1), ONE),), 0),), (lot(1, (1, 3)),))


def chart(starts, cases, safes):
    return (1, 0, tuple(starts), tuple(cases), tuple(safes))


def moved(number):
    """The map that adds a number."""
    return ((row(1), pair(number)),)


def by_hand(one_chart, directions, patience):
    """The table of point 10, turn by turn as it is told, all cases looked at in each of them."""
    size, coming, starts, cases, safes = one_chart
    numbers, rises = {}, {}

    def brought(kept, place, found):
        """The greatest of what is brought to each place; None wins, as it is no number."""
        for k, told in enumerate(found):
            old = kept.setdefault(place, {}).setdefault(k, told)
            kept[place][k] = None if None in (old, told) else max(old, told)

    def most(one_lot, wish, more):
        told = greatest(one_lot, wish)
        return num(told[1]) + more if told[0] == "greatest" else None

    for place, one_lot in starts:
        if greatest(one_lot, directions[0])[0] != "void":
            brought(numbers, place, [most(one_lot, wish, 0) for wish in directions])
    while True:
        found, changed = {}, False
        for start, guard, moves, goal in cases:
            if start in numbers:
                ahead = tuple((wish + row(*[0] * coming), pair(numbers[start][k]))
                              for k, wish in enumerate(directions) if numbers[start][k] is not None)
                one_lot = (size + coming, ahead + guard[1])
                if greatest(one_lot, row(*[0] * (size + coming)))[0] != "void":
                    back = [row(*[dot(wish, [move[0][at] for move in moves]) for at in range(size + coming)])
                            for wish in directions]
                    brought(found, goal, [most(one_lot, led, dot(wish, [move[1] for move in moves]))
                                          for wish, led in zip(directions, back)])
        for place, row_found in found.items():
            if place not in numbers:
                numbers[place], changed = row_found, True
                continue
            for k, told in row_found.items():
                old = numbers[place][k]
                if old is not None and (told is None or told > old):
                    changed = True
                    rises[place, k] = rises.get((place, k), 0) + 1
                    numbers[place][k] = None if rises[place, k] > patience else told
        if not changed:
            break
    none = (size, ((row(*[0] * size), LESS),))
    return tuple((size, tuple((wish, pair(numbers[place][k])) for k, wish in enumerate(directions)
                              if numbers[place][k] is not None)) if place in numbers else none
                 for place in range(len(safes)))


class TableBy(HelmCase):
    def test_a_number_that_stays(self):
        # z / 2 + w: from 1 to 3 / 2, 7 / 4, 15 / 8 .. the greatest number rises for ever.
        for patience in range(7):
            self.assertEqual(table_by(HALVING, (DOWN,), patience), (lot(1, (-1, 0)),))
            self.assertEqual(table_by(HALVING, (UP, DOWN), patience), (lot(1, (-1, 0)),))
        still = chart([(0, UNIT)], [(0, FREE, moved(0), 0)], [FREE])
        for patience in range(7):
            self.assertEqual(table_by(still, (UP, DOWN), patience), (UNIT,))

    def test_patience(self):
        # z + 1 rises as long as z is up to 2 ahead of it: twice up to 3, and once more if the guard lets it.
        for most, rises in ((0, 1), (1, 2), (2, 3), (3, 4), (5, 6), (6, 7)):
            one = chart([(0, lot(1, (1, 0), (-1, 0)))], [(0, lot(1, (1, most)), moved(1), 0)], [FREE])
            for patience in range(7):
                told = (lot(1, (1, rises), (-1, 0)),) if patience >= rises else (lot(1, (-1, 0)),)
                self.assertEqual(table_by(one, (UP, DOWN), patience), told, (most, patience))

    def test_the_order_and_alike_directions(self):
        self.assertEqual(table_by(ADDING, (UP, DOWN), 1), (lot(1, (-1, 0)),))
        still = chart([(0, UNIT)], [], [FREE])
        self.assertEqual(table_by(still, (DOWN, UP, row(3), DOWN, row(0)), 0),
                         (lot(1, (-1, 0), (1, 1), (3, 3), (-1, 0), (0, 0)),))

    def test_a_number_at_a_place_reached_anew_is_no_rise(self):
        one = chart([(0, UNIT)], [(0, FREE, moved(5), 1), (1, lot(1, (1, 7)), moved(1), 1)], [FREE, FREE])
        self.assertEqual(table_by(one, (UP,), 0), (lot(1, (1, 1)), FREE))
        self.assertEqual(table_by(one, (UP,), 1), (lot(1, (1, 1)), FREE))
        self.assertEqual(table_by(one, (UP,), 2), (lot(1, (1, 1)), lot(1, (1, 8))))
        self.assertEqual(table_by(one[:3] + (one[3][:1],) + one[4:], (UP,), 0), (lot(1, (1, 1)), lot(1, (1, 6))))

    def test_places_reached_and_not_reached(self):
        one = chart([(0, UNIT), (3, VOID)],
                    [(0, lot(1, (-1, -2)), GO, 1), (0, lot(1, (-1, -1)), GO, 2), (3, FREE, GO, 4), (4, FREE, GO, 0)],
                    [FREE] * 5)
        self.assertEqual(table_by(one, (UP, DOWN), 0),
                         (UNIT, VOID, lot(1, (1, 1), (-1, -1)), VOID, VOID))

    def test_a_start_that_is_void_beside_one_that_is_not(self):
        one = chart([(0, VOID), (0, UNIT), (0, lot(1, (1, 5), (-1, -4)))], [], [FREE])
        self.assertEqual(table_by(one, (UP, DOWN), 0), (lot(1, (1, 5), (-1, 0)),))

    def test_no_greatest_number(self):
        one = chart([(0, UNIT), (0, lot(1, (1, 9)))], [(0, lot(1, (1, 9)), GO, 1)], [FREE] * 2)
        self.assertEqual(table_by(one, (UP, DOWN), 6), (lot(1, (1, 9)), lot(1, (1, 9))))
        # What stood is given up at once, however great the patience: the case comes from a place without end.
        two = chart([(0, UNIT), (1, (1, ()))], [(1, lot(1, (-1, 5)), GO, 0)], [FREE] * 2)
        self.assertEqual(table_by(two, (UP, DOWN), 6), (lot(1, (-1, 5)), FREE))

    def test_what_is_given_up_does_not_come_back(self):
        # Behind place 1, where nothing is known, z is set to 4: place 0 could hold it, but has given up at once.
        one = chart([(0, lot(1, (1, 0), (-1, 0)))], [(0, lot(1, (1, 3)), moved(1), 0), (0, FREE, ((row(0), (4, 1)),), 0)],
                    [FREE])
        self.assertEqual(table_by(one, (UP, DOWN), 0), (lot(1, (-1, 0)),))
        self.assertEqual(table_by(one, (UP, DOWN), 1), (lot(1, (1, 4), (-1, 0)),))

    def test_all_cases_of_a_turn_see_the_lots_of_its_beginning(self):
        # Place 2 gets - 5, then 0 by place 1, then 2 by place 4: with what the first turn brings to place 1 the number
        # of place 2 would be 0 at first, and would rise once alone.
        one = chart([(0, lot(1, (1, 0), (-1, 0))), (1, lot(1, (1, -9), (-1, 9)))],
                    [(0, FREE, GO, 1), (1, FREE, GO, 2), (0, FREE, moved(-5), 2), (0, FREE, GO, 3), (3, FREE, GO, 4),
                     (4, FREE, moved(2), 2)], [FREE] * 5)
        nought = lot(1, (1, 0))
        self.assertEqual(table_by(one, (UP,), 0), (nought, FREE, FREE, nought, nought))
        self.assertEqual(table_by(one, (UP,), 1), (nought, nought, FREE, nought, nought))
        self.assertEqual(table_by(one, (UP,), 2), (nought, nought, lot(1, (1, 2)), nought, nought))

    def test_numbers_of_maps_and_of_what_comes(self):
        two = (2, 1, ((0, box_of(((NIL, ONE), (ONE, pair(2))))),),
               ((0, lot(3, (0, 0, 1, 1), (0, 0, -1, 1)), ((row(0, 2, 3), pair(7)), (row(1, 0, 0), pair(-1))), 1),),
               ((2, ()), (2, ())))
        self.assertEqual(table_by(two, (row(1, 0), row(-1, 0), row(0, 1), row(0, -1), row(1, -1)), 0)[1],
                         lot(2, (1, 0, 14), (-1, 0, -6), (0, 1, 0), (0, -1, 1), (1, -1, 15)))

    def test_random_charts(self):
        source, reached, given_up = random.Random(10), 0, 0
        for turn in range(150):
            one = some_chart(source, 1 + turn % 2, turn % 3 % 2, source.randint(1, 3), source.randint(0, 5))
            directions = some_directions(source, one[0], source.randint(1, 4))
            patience = source.randint(0, 3)
            told = table_by(one, directions, patience)
            self.assertTrue(is_chart(one) and is_table(one, told))
            self.assertEqual(told, by_hand(one, directions, patience))
            self.assertEqual(told, table_by(patience=patience, directions=directions, chart=one))
            none = (one[0], ((row(*[0] * one[0]), LESS),))
            reached += sum(place != none for place in told)
            given_up += sum(place != none and len(place[1]) < len(directions) for place in told)
        self.assertGreater(reached, 100)
        self.assertGreater(given_up, 40)


class Settled(HelmCase):
    def judge(self, one, directions, patience):
        """What is told shows itself; its kind is told on."""
        told, table = settled(one, directions, patience), table_by(one, directions, patience)
        self.assertEqual((type(told), len(told)), (tuple, 2))
        opened = open_wishes(one, table)
        if told[0] == "safe":
            self.assertEqual(opened, ())
            self.assertEqual(told[1][0], table)
            self.assertIs(takes(one, told[1]), True)
        else:
            self.assertEqual(told, ("open", opened[0]))
            self.assertIs(type(told[1]), int)
            safes = sum(len(safe[1]) for safe in one[4])
            # All wishes of a start and of a case are met by it.
            self.assertGreaterEqual(opened[0], len(wishes(one, table)) - safes)
        return told[0]

    def test_both_answers(self):
        self.assertEqual(settled(HALVING, (UP, DOWN), 0), ("open", 2))
        self.assertEqual(settled(chart=ADDING, directions=(UP, DOWN), patience=6), ("open", 2))
        guarded = ADDING[:3] + (((0, lot(1, (1, 2)), moved(1), 0),),) + ADDING[4:]
        for patience, told in ((0, "open"), (1, "open"), (2, "safe"), (6, "safe")):
            self.assertEqual(self.judge(guarded, (UP,), patience), told)
        self.assertEqual(self.judge(guarded, (DOWN,), 6), "open")
        self.assertEqual(self.judge(guarded, (DOWN, row(2)), 2), "safe")

    def test_the_least_open_wish(self):
        safes = [lot(1, (1, 1), (-1, 0)), lot(1, (1, 8), (1, 5), (1, 6)), lot(1, (0, -1))]
        one = chart([(0, UNIT)], [(0, FREE, moved(5), 1)], safes)
        # Behind UP and DOWN for the start and for the case: 0 and 1 of the start, 2 and 3 of the case.
        self.assertEqual(settled(one, (UP, DOWN), 0), ("open", 7))
        self.assertEqual(settled(one[:4] + ((lot(1, (1, 0)), FREE, FREE),), (UP, DOWN), 0), ("open", 4))
        self.assertEqual(settled(one[:4] + ((FREE, lot(1, (1, 6)), lot(1, (0, -1))),), (UP, DOWN), 0)[0], "safe")
        self.assertEqual(settled(one[:4] + ((FREE, lot(1, (0, -1)), lot(1, (0, -1))),), (UP, DOWN), 0), ("open", 4))

    def test_places_not_reached_are_safe(self):
        one = chart([(0, UNIT)], [(0, lot(1, (-1, -2)), GO, 1), (1, FREE, moved(9), 1)], [UNIT, VOID])
        self.assertEqual(self.judge(one, (UP, DOWN), 0), "safe")

    def test_random_charts(self):
        source, kinds = random.Random(11), {"safe": 0, "open": 0}
        for turn in range(150):
            one = some_chart(source, 1 + turn % 2, turn % 2, source.randint(1, 3), source.randint(0, 4))
            kinds[self.judge(one, some_directions(source, one[0], source.randint(1, 4)), source.randint(0, 2))] += 1
        self.assertGreater(min(kinds.values()), 30)

    def test_24_directions(self):
        self.assertEqual(table_by(ADDING, (DOWN,) * 24, 0), (lot(1, *[(-1, 0)] * 24),))
        self.assertEqual(self.judge(ADDING, (DOWN,) * 24, 0), "open")


class WrongInputs(HelmCase):
    def test_in_the_order_of_the_arguments(self):
        for call in (table_by, settled):
            for value in ODD + [ADDING[:4], list(ADDING)]:
                self.fails_given(InvalidChart, value, call, value, None, None)
            for value in ODD + [(), (UP,) * 25, [UP]]:
                index = 0 if type(value) is tuple and 1 <= len(value) <= 24 else None
                self.fails_at(InvalidDirections, index, call, ADDING, value, None)
            for value in NO_FRACTIONS + [row(1, 1), ()]:
                self.fails_at(InvalidDirections, 0, call, ADDING, ((value,), value), None)
                self.fails_at(InvalidDirections, 2, call, ADDING, (UP, DOWN, value, value), 7)
                self.fails_at(InvalidDirections, 23, call, ADDING, (UP,) * 23 + (value,), 7)
            for value in ODD + [7, -1, (0,), True]:
                self.fails_given(InvalidNumber, value, call, ADDING, (UP,), value)
                self.fails_given(InvalidNumber, value, call, patience=value, directions=(UP,), chart=ADDING)

    def test_rows_of_the_size_of_states(self):
        for size in range(1, 5):
            wide = (size, 1, ((0, (size, ())),), (), ((size, ()),))
            for length in range(6):
                direction = row(*[1] * length)
                if length == size:
                    self.assertEqual(table_by(wide, (direction,), 0), ((size, ()),))
                else:
                    self.fails_at(InvalidDirections, 0, table_by, wide, (direction,), 0)


if __name__ == "__main__":
    unittest.main()
