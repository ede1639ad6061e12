"""Point 20: texts of plants there and back, and the row of a text that is none."""

import random
import re
import unittest
from fractions import Fraction

from rigs import CART_PLANT, CART_TEXT, TANK_PLANT, TANK_TEXT, made_loops, with_part
from safehelms.errors import InvalidPlant, InvalidText
from safehelms.plants import is_plant, plant_of, plant_text
from sums import ODD, HelmCase, pair, row

BIG = 10 ** 300
ORDER = ["numbers", "mode", "noise", "start", "sensor", "delay", "drive", "safe"]
WHOLE = re.compile("-?[1-9][0-9]*|0")


def is_whole_word(word):
    return WHOLE.fullmatch(word) is not None


def is_fraction_word(word):
    top, slash, bottom = word.partition("/")
    return is_whole_word(top) and (not slash or is_whole_word(bottom) and int(bottom) > 1
                                   and str(Fraction(int(top), int(bottom))) == word)


def is_row_right(words, size):
    """Whether a row of this kind is right, by itself."""
    kind, rest = words[0], words[1:]
    if kind == "numbers":
        return rest in (["1"], ["2"], ["3"])
    if kind == "delay":
        return rest in (["0"], ["1"], ["2"])
    if kind == "drive":
        if len(rest) != 5 or not all(map(is_whole_word, rest)):
            return False
        least, most, rest_at, holds, cuts = map(int, rest)
        return least <= rest_at <= most and holds in range(4) and cuts in range(2)
    if kind == "mode":
        many = size + 3
        return len(rest) == size * many and all(rest[at] == ":" if at % many == 0 else is_fraction_word(rest[at])
                                                for at in range(len(rest)))
    if kind == "sensor" and not (rest and is_whole_word(rest.pop())):
        return False
    if not all(map(is_fraction_word, rest)):
        return False
    if kind == "safe":
        return len(rest) == size + 1
    numbers = [Fraction(word) for word in rest]
    if kind == "sensor":
        return len(rest) == size + 2 and numbers[-1] >= numbers[-2] + 1
    return len(rest) == 2 and numbers[0] <= numbers[1]


def row_that_is_none(text):
    """The index that InvalidText has to tell; None for the text of a plant."""
    rows = text.split("\n")
    last = rows.pop()
    many, at, size = dict.fromkeys(ORDER, 0), 0, 1
    for index, one in enumerate(rows):
        words = one.split(" ")
        least = {"noise": size, "start": size}
        most = {"mode": 3, "noise": size, "start": size, "sensor": 2, "safe": 6}
        if words[0] not in ORDER or not is_row_right(words, size):
            return index
        to = ORDER.index(words[0])
        if to < at or many[words[0]] == most.get(words[0], 1):
            return index
        if any(many[kind] < least.get(kind, 1) for kind in ORDER[:to]):
            return index
        at, many[words[0]] = to, many[words[0]] + 1
        if words[0] == "numbers":
            size = int(words[1])
    return None if many["safe"] > 0 and not last else len(rows)


class ThereAndBack(HelmCase):
    def test_texts_as_told(self):
        for plant, text in ((TANK_PLANT, TANK_TEXT), (CART_PLANT, CART_TEXT)):
            self.assertEqual(plant_text(plant), text)
            self.assertEqual(plant_of(text), plant)
        self.assertEqual(plant_text(plant=TANK_PLANT), TANK_TEXT)
        self.assertEqual(plant_of(text=TANK_TEXT), TANK_PLANT)

    def test_each_part_has_its_text(self):
        for at, part, line, told in (
                ((1, 0), (pair("-7/3"), pair(-2)), 3, "noise -7/3 -2"), ((2, 1), (pair(0), pair(BIG)), 6,
                                                                         f"start 0 {BIG}"),
                ((3, 0), (row("-1/2", 0), pair(f"-{BIG}"), pair("1/9"), -BIG), 7, f"sensor -1/2 0 -{BIG} 1/9 -{BIG}"),
                (4, 0, 9, "delay 0"), ((5,), (-5, -2, -3, 3, 0), 10, "drive -5 -2 -3 3 0"),
                ((6, 2), (row(0, "-3/2"), pair(-1)), 13, "safe 0 -3/2 -1")):
            plant = with_part(CART_PLANT, at, part)
            self.assertIs(is_plant(plant), True)
            rows = CART_TEXT.split("\n")
            self.assertEqual(plant_text(plant), "\n".join(rows[:line] + [told] + rows[line + 1:]))
            self.assertEqual(plant_of(plant_text(plant)), plant)

    def test_many_plants(self):
        source, texts = random.Random(2001), {}
        for plant, _ in made_loops(source, 300):
            text = plant_text(plant)
            self.assertEqual(plant_of(text), plant)
            self.assertIsNone(row_that_is_none(text))
            self.assertEqual(texts.setdefault(text, plant), plant)

    def test_counts(self):
        rows = TANK_TEXT.split("\n")
        for at, kind, most in ((1, "mode", 3), (4, "sensor", 2), (8, "safe", 5)):
            for many in range(1, 9):
                text = "\n".join(rows[:at] + [rows[at]] * many + rows[at + 1:])
                if many <= most:
                    self.assertEqual(plant_text(plant_of(text)), text)
                else:
                    self.fails_at(InvalidText, at + most, plant_of, text)

    def test_errors(self):
        for value in ODD + [TANK_TEXT]:
            self.fails_given(InvalidPlant, value, plant_text, value)
        for value in ODD:
            if type(value) is not str:
                self.fails_at(InvalidText, None, plant_of, value)
        self.fails_at(InvalidText, None, plant_of, TANK_TEXT.encode())


class NoTexts(HelmCase):
    def assert_none(self, text, index=None):
        by_hand = row_that_is_none(text)
        if index is not None:
            self.assertEqual(by_hand, index, text)
        if by_hand is None:
            self.assertEqual(plant_text(plant_of(text)), text)
        else:
            self.fails_at(InvalidText, by_hand, plant_of, text)

    def test_few_rows(self):
        self.assert_none("", 0)
        self.assert_none("\n", 0)
        self.assert_none("numbers 1", 0)
        self.assert_none("numbers 1\n", 1)
        self.assert_none("numbers 1\n\n", 1)
        self.assert_none("numbers 1\nmode : 1 1 1", 1)
        self.assert_none("numbers", 0)
        self.assert_none("plant\n", 0)

    def test_something_behind_the_last_line_end(self):
        many = TANK_TEXT.count("\n")
        for behind in (" ", "x", "safe 1 10", "\n", "\n\n", "safe 1\n", "numbers 1\n", "-"):
            self.assert_none(TANK_TEXT + behind, many)
        self.assert_none(TANK_TEXT[:-1], many - 1)
        self.assert_none(TANK_TEXT + TANK_TEXT, many)

    def test_rows_left_out_doubled_and_turned_round(self):
        for text in (TANK_TEXT, CART_TEXT):
            rows = text.split("\n")[:-1]
            for at in range(len(rows)):
                for changed in (rows[:at], rows[:at] + rows[at + 1:], rows[:at + 1] + rows[at:],
                                rows[:at] + rows[at:at + 2][::-1] + rows[at + 2:], rows[at:], rows[:at] + [""] + rows[at:]):
                    self.assert_none("".join(one + "\n" for one in changed))
            for many in range(len(rows)):
                text = "".join(one + "\n" for one in rows[:many])
                self.assert_none(text, many if "safe" not in text else None)

    def test_words_and_numbers_in_each_row(self):
        others = ["", "0", "1", "2", "3", "4", "-1", "-0", "00", "01", "+1", "1.0", "1/1", "2/4", "0/1", "0/2", "-1/2",
                  "1/-2", "-4/3", "5/2", "1/0", "1/2/3", "/", "1/", "/2", "x", ":", "safe", "mode", "1_0", "- 1",
                  "\u0661", "\u00b2", "1e1", " ", "\t", "7\r", str(BIG), f"1/{BIG}", f"{BIG}/{BIG + 1}"]
        for text in (TANK_TEXT, CART_TEXT):
            rows = text.split("\n")
            for at, one in enumerate(rows[:-1]):
                words = one.split(" ")
                for place in range(len(words)):
                    for other in others:
                        changed = " ".join(words[:place] + [other] + words[place + 1:])
                        self.assert_none("\n".join(rows[:at] + [changed] + rows[at + 1:]))
                    more = " ".join(words[:place] + [words[place]] + words[place:])
                    self.assert_none("\n".join(rows[:at] + [more] + rows[at + 1:]), at)
                    less = " ".join(words[:place] + words[place + 1:])
                    self.assert_none("\n".join(rows[:at] + [less] + rows[at + 1:]), at)
                for odd in (one + " ", " " + one, one.replace(" ", "  ", 1), one + "\r", one.upper(), one + " 0"):
                    self.assert_none("\n".join(rows[:at] + [odd] + rows[at + 1:]), at)

    def test_limits_of_each_row(self):
        for line, told, index in (
                (0, "numbers 0", 0), (0, "numbers 4", 0), (0, "numbers 1", 1), (0, "numbers 3", 1),
                (3, "noise 1/3 1/4", 3), (3, "noise 1/4 1/4", None), (5, "start 0 -1/9", 5),
                (7, "sensor 1 0 0 1 -7", None), (7, "sensor 1 0 0 9/10 0", 7), (7, "sensor 1 0 -1/2 1/3 0", 7),
                (7, "sensor 1 0 0 2 1/2", 7), (9, "delay 3", 9), (9, "delay -1", 9), (10, "drive 1 0 0 0 0", 10),
                (10, "drive 0 1 2 0 0", 10), (10, "drive 0 1 -1 0 0", 10), (10, "drive 0 0 0 4 0", 10),
                (10, "drive 0 0 0 -1 0", 10), (10, "drive 0 0 0 0 2", 10), (10, "drive 0 0 0 0 1/2", 10),
                (10, "drive 0 0 0 3 1", None), (11, "safe 1 0 0 0", 11), (11, "safe 1 0", 11), (11, "safe", 11),
                (1, "mode", 1), (1, "mode ", 1), (3, "noise", 3), (5, "start", 5), (7, "sensor", 7), (9, "delay", 9),
                (10, "drive", 10), (0, "numbers", 0)):
            rows = CART_TEXT.split("\n")
            text = "\n".join(rows[:line] + [told] + rows[line + 1:])
            self.assertEqual(row_that_is_none(text), index)
            self.assert_none(text)

    def test_texts_changed_by_chance(self):
        source, told = random.Random(2002), []
        for plant, _ in made_loops(source, 400):
            signs = list(plant_text(plant))
            for _ in range(source.randint(1, 3)):
                at = source.randrange(len(signs))
                signs[at:at + source.choice((0, 1, 1, 2))] = source.choice(("", " ", "\n", "0", "1", "-", "/", ":", "9"))
            told.append(row_that_is_none("".join(signs)))
            self.assert_none("".join(signs))
        self.assertTrue(10 < told.count(None) < 300, told.count(None))


if __name__ == "__main__":
    unittest.main()
