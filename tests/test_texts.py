"""Point 16: texts of controllers there and back, and the first sign that is wrong."""

import random
import unittest

from helms import BROAD, RISING, TANK, made_controllers
from safehelms.controllers import is_controller
from safehelms.errors import InvalidController, InvalidText
from safehelms.texts import controller_of, is_name, text_of
from sums import NO_FRACTIONS, ODD, HelmCase

WORDS = ("word in keep out phase set go if else end add less times least greatest clamp from above same not and or"
         .split(" "))
RISING_TEXT = "word 8 in level 0 100 out 0 5 phase only set more times 2 level out clamp more 0 5 end"
TANK_TEXT = ("word 8 in level 0 100 keep count 0 9 0 1 out 0 5"
             " phase fill if above level 80 out 0 go rest else out 5 set count least add count 1 9 end end"
             " phase rest out 0 if from 40 level go fill end end")
# What may stand in the place of each kind: the first sign tells which of them it is.
SUM = {"number": [], "name": [], "add": ["sum", "sum"], "less": ["sum", "sum"], "times": ["number", "sum"],
       "least": ["sum", "sum"], "greatest": ["sum", "sum"], "clamp": ["sum", "number", "number"]}
CONDITION = {"from": ["sum", "sum"], "above": ["sum", "sum"], "same": ["sum", "sum"], "not": ["condition"],
             "and": ["condition", "condition"], "or": ["condition", "condition"]}
BLOCK = {"set": ["name", "sum", "block"], "out": ["sum", "block"], "go": ["name", "block"],
         "if": ["condition", "block", "else?", "end", "block"]}


def kind_of(sign):
    if sign in WORDS:
        return sign
    if sign.strip("abcdefghijklmnopqrstuvwxyz_") == "" and 1 <= len(sign) <= 12:
        return "name"
    if sign in ("0", "-0"):
        return "number" if sign == "0" else "none"
    figures = sign[1:] if sign[:1] == "-" else sign
    return "number" if figures and figures.strip("0123456789") == "" and figures[0] != "0" else "none"


def first_wrong(text):
    """The index that InvalidText has to tell; None for what is right in form. A stack tells what is to come."""
    signs = [sign for sign in text.split(" ") if sign]
    stack = ["phases", "number", "number", "out", "keeps", "inputs", "number", "word"]
    for at, sign in enumerate(signs):
        kind = kind_of(sign)
        while True:
            if not stack:
                return at
            want = stack.pop()
            if want == "sum" and kind in SUM:
                stack += SUM[kind][::-1]
            elif want == "condition" and kind in CONDITION:
                stack += CONDITION[kind][::-1]
            elif want == "block":
                if kind not in BLOCK:
                    continue
                stack += BLOCK[kind][::-1]
            elif want == "else?":
                if kind != "else":
                    continue
                stack += ["block"]
            elif want == "inputs":
                if kind != "in":
                    continue
                stack += ["inputs", "number", "number", "name"]
            elif want == "keeps":
                if kind != "keep":
                    continue
                stack += ["keeps", "number", "number", "number", "number", "name"]
            elif want == "phases":
                if kind != "phase":
                    return at
                stack += ["phases", "end", "block", "name"]
            elif want != kind:
                return at
            break
    return None if stack == ["phases"] else len(signs)


def wrapped_in(word, one, many):
    for _ in range(many):
        one = (word, one)
    return one


class IsName(HelmCase):
    def test_names(self):
        for name in ("a", "z", "_", "__", "level_", "_level", "a" * 12, "_" * 12, "words", "outs", "i", "thenelse"):
            self.assertIs(is_name(name), True)
        for value in WORDS + ["", "a" * 13, "Level", "LEVEL", "level2", "1", "-1", "a b", " a", "a ", "a\n", "a-b",
                              "\u00e4", "\u0430", "\u00aa", "a.b", "a" * 5000, "\x00"]:
            self.assertIs(is_name(value), False)

    def test_the_document(self):
        self.assertEqual([is_name("level_2"), is_name("keep"), is_name("fill")], [False, False, True])

    def test_whatever_it_is(self):
        for value in ODD + NO_FRACTIONS + [b"level", ["a"], ("a",), {"a"}]:
            self.assertIs(is_name(value), value in ("bound", "lot") if isinstance(value, str) else False)
        self.assertIs(is_name(value="level"), True)


class TextOf(HelmCase):
    def test_by_hand(self):
        self.assertEqual(text_of(RISING), RISING_TEXT)
        self.assertEqual(text_of(controller=TANK), TANK_TEXT)

    def test_each_statement_sum_and_condition(self):
        for block, text in (
                ((("set", "x", -5), ("out", "x")), "set x -5 out x"), ((("out", 0), ("go", "p")), "out 0 go p"),
                ((("out", ("add", "a", 1)),), "out add a 1"), ((("out", ("less", "a", 1)),), "out less a 1"),
                ((("out", ("times", -3, "a")),), "out times -3 a"), ((("out", ("least", "a", 1)),), "out least a 1"),
                ((("out", ("greatest", "a", 1)),), "out greatest a 1"),
                ((("out", ("clamp", "a", -8, 7)),), "out clamp a -8 7"),
                ((("out", ("clamp", ("add", ("times", 2, "a"), ("less", 1, 2)), 0, 0)),),
                 "out clamp add times 2 a less 1 2 0 0"),
                ((("if", ("from", "a", 1), (("out", 1),), (("out", 2),)),), "if from a 1 out 1 else out 2 end"),
                ((("out", 0), ("if", ("above", "a", 1), (("go", "p"),), ())), "out 0 if above a 1 go p end"),
                ((("out", 0), ("if", ("same", "a", 1), (), (("go", "p"),))), "out 0 if same a 1 else go p end"),
                ((("out", 0), ("if", ("same", "a", 1), (), ())), "out 0 if same a 1 end"),
                ((("out", 0), ("if", ("not", ("same", "a", 1)), (), ())), "out 0 if not same a 1 end"),
                ((("out", 0), ("if", ("and", ("same", "a", 1), ("or", ("from", 1, 2), ("from", 2, 1))), (), ())),
                 "out 0 if and same a 1 or from 1 2 from 2 1 end"),
                ((("if", ("from", 1, 2), (("if", ("from", 3, 4), (("out", 1),), (("out", 2),)),), (("out", 3),)),),
                 "if from 1 2 if from 3 4 out 1 else out 2 end else out 3 end")):
            one = (4, (("a", -8, 7),), (), (-8, 7), (("p", block),))
            self.assertIs(is_controller(one), True, block)
            self.assertEqual(text_of(one), "word 4 in a -8 7 out -8 7 phase p " + text + " end")
            self.assertEqual(controller_of(text_of(one)), one)

    def test_there_and_back(self):
        source, texts = random.Random(23), {}
        for one in made_controllers(source, 250, is_controller) + [BROAD, TANK, RISING]:
            text = text_of(one)
            self.assertIs(type(text), str)
            self.assertEqual(text.split(), text.split(" "))
            self.assertIsNone(first_wrong(text))
            self.assertEqual(controller_of(text), one)
            # Unlike controllers have unlike texts.
            self.assertEqual(texts.setdefault(text, one), one)

    def test_wrong_inputs(self):
        for value in ODD + [TANK[:4], list(TANK)]:
            self.fails_given(InvalidController, value, text_of, value)
            self.fails_given(InvalidController, value, text_of, controller=value)


class ControllerOf(HelmCase):
    def assert_wrong(self, text, index):
        self.assertEqual(first_wrong(text), index)
        self.fails_at(InvalidText, index, controller_of, text)
        self.fails_at(InvalidText, index, controller_of, text=text)

    def assert_none(self, text, given):
        """The text is right in form, but no controller's."""
        self.assertIsNone(first_wrong(text))
        with self.assertRaises(InvalidController) as caught:
            controller_of(text)
        self.assertEqual(caught.exception.given, given)
        self.assertIs(type(caught.exception), InvalidController)

    def test_blanks(self):
        for text in ("  " + RISING_TEXT, RISING_TEXT + " ", "   " + RISING_TEXT.replace(" ", "    ") + "  "):
            self.assertEqual(controller_of(text), RISING)
        signs = RISING_TEXT.split(" ")
        for at in range(1, len(signs)):
            # Two signs that have no blank between are one other sign.
            text = " ".join(signs[:at - 1] + [signs[at - 1] + signs[at]] + signs[at + 1:])
            self.assertIsNotNone(first_wrong(text))
            self.fails_at(InvalidText, first_wrong(text), controller_of, text)
        for blank in ("\n", "\t", "\r", "\x0b", "\u00a0", "\u2003", "\x00", ",", ";"):
            self.assert_wrong(RISING_TEXT + blank, len(signs) - 1)
            self.assert_wrong(blank + RISING_TEXT, 0)
            self.assert_wrong(RISING_TEXT.replace(" ", blank), 0)
            self.assert_wrong(RISING_TEXT.replace(" level 0", blank + " level 0", 1), 2)
            self.assert_wrong(RISING_TEXT + " " + blank, len(signs))

    def test_else_with_nothing_behind_it(self):
        for ahead in ("out 1", ""):
            text = "word 8 in a 0 1 out 0 5 phase p out 0 if from 1 2 " + ahead + "{} end end"
            told = controller_of(text.format(" else"))
            self.assertEqual(told, controller_of(text.format("")))
            self.assertEqual(told[4][0][1][1], ("if", ("from", 1, 2), (("out", 1),) if ahead else (), ()))
        self.assert_wrong("word 8 in a 0 1 out 0 5 phase p out 0 if from 1 2 else else end end", 18)
        self.assert_wrong("word 8 in a 0 1 out 0 5 phase p out 0 else end end", 13)

    def test_the_document(self):
        self.assert_wrong("word 8 in level 0 100 out 0 5 phase only out add 1 end", 14)

    def test_no_text(self):
        for value in ODD + NO_FRACTIONS + [b"word 8", ["word"], 5]:
            if not isinstance(value, str):
                self.fails_at(InvalidText, None, controller_of, value)
        self.fails_at(InvalidText, None, controller_of, text=None)

    def test_what_lacks_behind(self):
        for text in (RISING_TEXT, TANK_TEXT, text_of(BROAD)):
            signs = text.split(" ")
            for many in range(len(signs)):
                ahead = " ".join(signs[:many])
                if first_wrong(ahead) is not None:
                    self.assert_wrong(ahead, many)
                    self.assert_wrong("  " + ahead + "  ", many)
        for blanks in ("", " ", "     "):
            self.assert_wrong(blanks, 0)

    def test_signs_too_many(self):
        many = len(RISING_TEXT.split(" "))
        for sign in ("end", "out", "word", "5", "level", "phase_", "-"):
            self.assert_wrong(RISING_TEXT + " " + sign, many)
            self.assert_wrong(RISING_TEXT + " " + sign + " " + sign, many)
        self.assert_wrong(RISING_TEXT + " phase", many + 1)
        self.assert_wrong(RISING_TEXT + " phase end", many + 1)

    def test_numbers(self):
        for sign in ("00", "01", "-0", "-01", "+1", "1.0", "1_0", "--1", "-", "1-", "0x1", "\u0661", "1e3", "\u00b2",
                     "-a", "1a"):
            for at in (1, 4, 8, 14):
                signs = RISING_TEXT.split(" ")
                signs[at] = sign
                self.assert_wrong(" ".join(signs), at)
        one = controller_of("word 8 in a -5 -1 out -128 127 phase p out -10 end")
        self.assertEqual(one, (8, (("a", -5, -1),), (), (-128, 127), (("p", (("out", -10),)),)))

    def test_names_that_are_none(self):
        for sign in WORDS + ["a" * 13, "Level", "level2", "a-b", "\u00e4", "5", "-5"]:
            for at in (3, 10, 12):
                signs = RISING_TEXT.split(" ")
                signs[at] = sign
                self.assert_wrong(" ".join(signs), at)

    def test_each_sign_in_each_place(self):
        source = random.Random(24)
        for text in (RISING_TEXT, TANK_TEXT, text_of(BROAD)):
            signs = text.split(" ")
            for at in range(len(signs)):
                for sign in source.sample(WORDS + ["7", "name", "?", "0", "-1"], 9):
                    for other in (signs[:at] + [sign] + signs[at + 1:], signs[:at] + [sign] + signs[at:],
                                  signs[:at] + signs[at + 1:]):
                        index = first_wrong(" ".join(other))
                        if index is not None:
                            self.fails_at(InvalidText, index, controller_of, " ".join(other))
                        else:
                            self.assert_read(" ".join(other))

    def assert_read(self, text):
        """What is right in form is read as a controller, or is told to be none."""
        try:
            told = controller_of(text)
        except InvalidController as error:
            self.assertIs(is_controller(error.given), False)
        else:
            self.assertIs(is_controller(told), True)

    def test_right_in_form_and_no_controller(self):
        self.assert_none("word 8 out 0 5", (8, (), (), (0, 5), ()))
        self.assert_none("word -3 out 9 5", (-3, (), (), (9, 5), ()))
        self.assert_none("word 8 in a 0 1 out 0 5 phase p end", (8, (("a", 0, 1),), (), (0, 5), (("p", ()),)))
        self.assert_none("word 8 in a 0 1 in b 0 1 in a 5 4 keep k 1 2 3 4 keep a 0 0 0 0 out 0 0 phase p out c end"
                         " phase p go nowhere set a k end",
                         (8, (("a", 0, 1), ("b", 0, 1), ("a", 5, 4)), (("k", 1, 2, 3, 4), ("a", 0, 0, 0, 0)), (0, 0),
                          (("p", (("out", "c"),)), ("p", (("go", "nowhere"), ("set", "a", "k"))))))
        far = 10 ** 350
        self.assert_none("word 8 in a 0 1 out 0 5 phase p out times {} clamp a {} -{} end".format(far, far, far),
                         (8, (("a", 0, 1),), (), (0, 5), (("p", (("out", ("times", far, ("clamp", "a", far, -far))),)),)))

    def test_many_of_a_kind(self):
        ahead = "word 8 in a 0 1 out 0 5 phase p "
        parts = (8, (("a", 0, 1),), (), (0, 5))
        self.assert_none(ahead + "out 0 " * 13 + "end", parts + ((("p", (("out", 0),) * 13),),))
        self.assert_none("word 8 " + "in a 0 1 " * 200 + "out 0 5" + " phase p out 0 end" * 100,
                         (8, (("a", 0, 1),) * 200, (), (0, 5), (("p", (("out", 0),)),) * 100))

    def test_thirty_within_one_another(self):
        parts = (8, (("a", 0, 1),), (), (0, 5))
        ahead = "word 8 in a 0 1 out 0 5 phase p "
        deep = "a"
        for _ in range(29):
            deep = ("add", deep, 1)
        condition = wrapped_in("not", ("from", deep, deep), 29)
        block = (("if", condition, (), ()),)
        text = "if " + "not " * 29 + "from " + ("add " * 29 + "a" + " 1" * 29 + " ") * 2 + "end "
        for _ in range(28):
            block = (("if", ("from", 1, 2), block, block[:0]),)
            text = "if from 1 2 " + text + "end "
        self.assert_none(ahead + text + "end", parts + ((("p", block),),))
        self.assert_wrong(ahead + text + "add end", 11 + len(text.split()))
        self.assert_wrong(ahead + text[:-4], 11 + len(text.split()) - 1)

    def test_the_first_of_both_errors(self):
        # The form is looked at ahead of what the names and numbers tell.
        self.assert_wrong("word 99 in a 5 4 in a 0 0 out 0 5 phase p out none", 17)
        self.assert_wrong("word 99 in a 5 4 in a 0 0 out 0 5 phase p out none else", 17)


if __name__ == "__main__":
    unittest.main()
