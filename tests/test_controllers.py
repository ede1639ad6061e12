"""Point 12: what is a controller and what is none, at both sides of each limit."""

import random
import unittest

from helms import BROAD, RISING, TANK, Maker, branches_by_hand, highest, lowest
from safehelms.branches import branches_of
from safehelms.controllers import is_controller
from sums import NO_FRACTIONS, ODD, HelmCase, nested

LEVEL = (("level", 0, 100),)
COUNT = (("count", 0, 9, 0, 1),)
OUT_0 = ("out", 0)
WORDS = ("word in keep out phase set go if else end add less times least greatest clamp from above same not and or"
         .split(" "))
SUMS = [7, "level", "count", ("add", 1, "level"), ("less", "level", 1), ("times", -3, "level"), ("least", 1, 2),
        ("greatest", "count", 2), ("clamp", "level", -1, 5)]
CONDITIONS = [("from", 1, "level"), ("above", "level", 2), ("same", 1, "count"), ("not", ("from", 1, 2)),
              ("and", ("from", 1, 2), ("above", 1, 2)), ("or", ("same", 1, 2), ("not", ("same", 1, 2)))]


def bent(value, at, part):
    return value[:at] + (part,) + value[at + 1:]


def with_block(*block, inputs=LEVEL, keeps=COUNT, width=8, out=(-128, 127)):
    """A controller the first of whose two phases is this block."""
    return (width, inputs, keeps, out if width == 8 else (0, 5), (("only", block), ("rest", (OUT_0,))))


def with_sum(value):
    return with_block(("out", value))


def with_condition(value):
    return with_block(("if", value, (OUT_0,), (OUT_0,)))


def deep_sum(deep, word="add"):
    value = "level"
    for _ in range(deep - 1):
        value = {"times": ("times", 1, value), "clamp": ("clamp", value, 0, 1)}.get(word, (word, 1, value))
    return value


def tree(many):
    """A sum of just so many sums, alike on both sides as far as may be; an odd number."""
    if many == 1:
        return 1
    left = (many - 1) // 2
    left -= 1 - left % 2
    return ("add", tree(left), tree(many - 1 - left))


class Alike:
    """What says that it is like anything, and that it is any number."""

    def __eq__(self, other):
        return True

    def __hash__(self):
        return hash("level")

    def __index__(self):
        return 8


class ControllerCase(HelmCase):
    def right(self, *controllers):
        for one in controllers:
            self.assertIs(is_controller(one), True, one)

    def wrong(self, *controllers):
        for one in controllers:
            self.assertIs(is_controller(one), False, one)


class Parts(ControllerCase):
    def test_right_ones(self):
        self.right(TANK, RISING, BROAD, with_block(OUT_0))
        self.assertIs(is_controller(value=TANK), True)

    def test_width(self):
        for width in list(range(-1, 36)) + [64, True, None, "8", (8,)]:
            value = (width, (("a", -8, 7),), (), (-8, 7), (("p", (OUT_0,)),))
            self.assertIs(is_controller(value), type(width) is int and 4 <= width <= 32)

    def test_words_of_the_width(self):
        for width in (4, 5, 8, 31, 32):
            low, high = lowest(width), highest(width)
            one = (width, (("a", low, high),), (("k", low, high, high, 0),), (low, high),
                   (("p", (("out", low), ("out", high), ("out", ("times", low, high)),
                           ("out", ("clamp", "a", low, high)))),))
            self.right(one)
            for less, more in ((low - 1, high), (low, high + 1)):
                self.wrong(bent(one, 1, (("a", less, more),)), bent(one, 2, (("k", less, more, 0, 0),)),
                           bent(one, 3, (less, more)), bent(one, 4, (("p", (("out", ("clamp", "a", less, more)),)),)))
            for number in (low - 1, high + 1):
                self.wrong(bent(one, 4, (("p", (("out", number),)),)),
                           bent(one, 4, (("p", (("out", ("times", number, 0)),)),)),
                           bent(one, 4, (("p", (("out", ("add", "a", number)),)),)))

    def test_how_many_parts(self):
        for at in range(5):
            self.wrong(TANK[:at] + TANK[at + 1:], TANK[:at] + (TANK[at],) + TANK[at:])
        self.wrong(list(TANK), TANK[::-1], TANK + ((),))

    def test_how_many_inputs(self):
        inputs = (("a", 0, 1), ("b", 0, 1), ("c", 0, 1))
        for many in range(4):
            self.assertIs(is_controller(with_block(OUT_0, inputs=inputs[:many])), many in (1, 2))

    def test_how_many_keeps(self):
        keeps = tuple((name, 0, 1, 0, 0) for name in "abcde")
        for many in range(6):
            self.assertIs(is_controller(with_block(OUT_0, keeps=keeps[:many])), many <= 3)

    def test_how_many_phases(self):
        phases = tuple((name, (OUT_0,)) for name in "abcdef")
        for many in range(7):
            self.assertIs(is_controller(bent(with_block(OUT_0), 4, phases[:many])), 1 <= many <= 4)

    def test_ranges(self):
        for low, high, right in ((0, 0, True), (1, 0, False), (-128, 127, True), (-129, 0, False), (0, 128, False),
                                 (5, 4, False), (4, 5, True), (127, 127, True), (-128, -128, True)):
            self.assertIs(is_controller(with_block(OUT_0, inputs=(("a", low, high),))), right)
            self.assertIs(is_controller(with_block(OUT_0, keeps=(("a", low, high, low, 0),))), right)
            self.assertIs(is_controller(with_block(OUT_0, out=(low, high))), right)
            self.assertIs(is_controller(with_sum(("clamp", "level", low, high))), right)

    def test_first_and_kept(self):
        for first in range(-3, 8):
            self.assertIs(is_controller(with_block(OUT_0, keeps=(("a", -1, 4, first, 0),))), -1 <= first <= 4)
        for kept in [-1, 0, 1, 2, True, False, None, "0"]:
            right = type(kept) is int and kept in (0, 1)
            self.assertIs(is_controller(with_block(OUT_0, keeps=(("a", -1, 4, 0, kept),))), right)

    def test_names_unlike(self):
        one, other = ("a", 0, 1), ("b", 0, 1)
        keep, further = ("k", 0, 1, 0, 0), ("l", 0, 1, 0, 0)
        self.right(with_block(OUT_0, inputs=(one, other), keeps=(keep, further)))
        self.wrong(with_block(OUT_0, inputs=(one, one)), with_block(OUT_0, keeps=(keep, keep)),
                   with_block(OUT_0, keeps=(keep, further, keep)),
                   with_block(OUT_0, inputs=(one, ("k", 5, 6)), keeps=(further, keep)),
                   with_block(OUT_0, inputs=(one, other), keeps=(("a", 0, 1, 0, 0),)))
        phases = (("p", (OUT_0,)), ("q", (OUT_0,)))
        self.right(bent(TANK, 4, phases))
        self.wrong(bent(TANK, 4, phases + (("p", (OUT_0,)),)), bent(TANK, 4, phases[:1] * 2))

    def test_phases_may_have_the_names_of_others(self):
        self.right(bent(TANK, 4, (("level", (("set", "x", 1), ("out", "x"), ("go", "x"))), ("count", (OUT_0,)),
                                  ("x", (OUT_0,)))))

    def test_names(self):
        names = ["a", "z", "_", "__", "_a_", "level", "a" * 12, "_" * 12, "words", "inn", "ifs", "thenelse"]
        others = WORDS + ["", "a" * 13, "A", "Level", "level2", "2", "le vel", " ", "level ", "a-b", "a.b", "a\n",
                          "\u00e4", "\u0430", "\uff41", "a\u0301", "\u00df", "\x00", "-", "0", b"level", ("level",)]
        for name in names + others:
            right = name in names
            self.assertIs(is_controller(with_block(OUT_0, inputs=((name, 0, 1),), keeps=())), right, name)
            self.assertIs(is_controller(with_block(OUT_0, keeps=((name, 0, 1, 0, 0),), inputs=(("q", 0, 1),))), right)
            self.assertIs(is_controller(bent(TANK, 4, ((name, (OUT_0, ("go", name))),))), right)
            self.assertIs(is_controller(bent(with_block(("set", name, 1), ("out", name)), 1, (("q", 0, 1),))), right)

    def test_things_of_any_kind_in_each_place(self):
        for value in ODD + NO_FRACTIONS + [nested(29)]:
            self.wrong(value)
            for at in range(5):
                if not ((at == 2 and value == ()) or (at == 3 and self.is_range(value))):
                    self.wrong(bent(with_block(OUT_0), at, value))
            for at in range(3):
                self.assertIs(is_controller(with_block(OUT_0, inputs=(bent(("b", -9, 5), at, value),))),
                              (at == 0 and value in ("bound", "lot", "a")) or (at == 1 and type(value) is int
                                                                              and -128 <= value <= 5)
                              or (at == 2 and type(value) is int and -9 <= value <= 127))
            self.wrong(with_block(OUT_0, inputs=(value,)), with_block(OUT_0, inputs=LEVEL + (value,)),
                       with_block(OUT_0, keeps=(value,)), with_block(OUT_0, keeps=COUNT + (value,)))
            self.wrong(bent(TANK, 4, (value,)), bent(TANK, 4, TANK[4] + (value,)))
            self.wrong(bent(TANK, 4, (("p", value),)), bent(TANK, 4, (("p", (value,)),)),
                       bent(TANK, 4, (("p", (OUT_0, value)),)))
            if not (type(value) is int and -128 <= value <= 127):
                self.wrong(with_sum(value), with_block(OUT_0, ("set", "x", value)), with_sum(("times", value, 1)),
                           with_sum(("clamp", 1, value, 127)), with_sum(("clamp", 1, -128, value)))
                for word in ("add", "less", "least", "greatest"):
                    self.wrong(with_sum((word, value, 1)), with_sum((word, 1, value)))
                for word in ("from", "above", "same"):
                    self.wrong(with_condition((word, value, 1)), with_condition((word, 1, value)))
            self.wrong(with_condition(value), with_condition(("not", value)))
            for word in ("and", "or"):
                self.wrong(with_condition((word, CONDITIONS[0], value)), with_condition((word, value, CONDITIONS[0])))
            if value != ():
                self.wrong(with_block(OUT_0, ("if", CONDITIONS[0], value, ())),
                           with_block(OUT_0, ("if", CONDITIONS[0], (), value)))
            self.wrong(with_block(OUT_0, ("go", value)))
            if value not in ("bound", "lot", "a"):
                self.wrong(with_block(OUT_0, ("set", value, 1)))

    def is_range(self, value):
        return (type(value) is tuple and [type(part) for part in value] == [int, int]
                and -128 <= value[0] <= value[1] <= 127)

    def test_how_long_the_rows_are(self):
        keep = ("k", 0, 9, 0, 1)
        for many in range(7):
            one = (("a", 0, 1, 1, 0, 0) + (0,))[:many]
            self.assertIs(is_controller(with_block(OUT_0, inputs=(one,), keeps=())), many == 3)
            self.assertIs(is_controller(with_block(OUT_0, keeps=((keep + (0, 0))[:many],))), many == 5)
            self.assertIs(is_controller(with_block(OUT_0, out=(0, 1, 2, 3, 4, 5)[:many])), many == 2)
            self.assertIs(is_controller(bent(TANK, 4, (("p", (OUT_0,), (), (), (), ())[:many],))), many == 2)

    def test_what_says_that_it_is_like_anything(self):
        for word in ("set", "out", "go", "if"):
            self.wrong(with_block(OUT_0, (Alike(), "x", 1)), with_block(OUT_0, ("go", Alike())),
                       with_block(OUT_0, ("set", Alike(), 1)), with_sum(Alike()), with_sum((Alike(), 1, 2)),
                       with_block((word, Alike())), bent(TANK, 4, ((Alike(), (OUT_0,)),)), bent(TANK, 0, Alike()))

    def test_lists_are_no_tuples(self):
        self.wrong(bent(TANK, 1, list(TANK[1])), bent(TANK, 2, list(TANK[2])), bent(TANK, 3, list(TANK[3])),
                   bent(TANK, 4, list(TANK[4])), bent(TANK, 1, (list(TANK[1][0]),)), bent(TANK, 2, (list(TANK[2][0]),)),
                   bent(TANK, 4, (list(TANK[4][0]), TANK[4][1])), bent(TANK, 4, (("p", [OUT_0]),)),
                   with_block(["out", 0]), with_sum(["add", 1, 2]), with_condition(["from", 1, 2]),
                   with_block(("if", CONDITIONS[0], [OUT_0], (OUT_0,))))


class Blocks(ControllerCase):
    def test_statements(self):
        self.right(with_block(("set", "x", 1), OUT_0, ("go", "only"), ("go", "rest"), ("if", CONDITIONS[0], (), ())))
        for right in (("set", "x", 1), OUT_0, ("go", "rest"), ("if", CONDITIONS[0], (), ())):
            self.right(with_block(OUT_0, right))
            for at in range(len(right)):
                self.wrong(with_block(OUT_0, right[:at] + right[at + 1:]),
                           with_block(OUT_0, right[:at] + (right[at],) + right[at:]))
            for word in ("Set", "put", "", "goto", "add", "from", "end", "word", b"out", 0, [], {}, ("out",), None):
                self.wrong(with_block(OUT_0, bent(right, 0, word)))
        self.wrong(with_block(OUT_0, ("go", "none")), with_block(OUT_0, ("go", "level")), with_block(OUT_0, ("go", 0)))

    def test_sums(self):
        for one in SUMS:
            self.right(with_sum(one), with_block(("set", "x", one), OUT_0), with_condition(("above", one, one)))
            if isinstance(one, tuple):
                for at in range(len(one)):
                    self.wrong(with_sum(one[:at] + one[at + 1:]), with_sum(one[:at] + (one[at],) + one[at:]))
                for word in ("Add", "", "set", "from", "sum", "max", [], {}, ("add",), None, 0):
                    self.wrong(with_sum(bent(one, 0, word)))
        for one in CONDITIONS:
            self.wrong(with_sum(one), with_sum(("add", one, 1)))
        self.wrong(with_sum(("times", "level", 2)), with_sum(("clamp", 0, "level", 9)), with_sum(("times", 1, "none")),
                   with_sum(("clamp", "level", 5, 4)), with_sum("none"), with_sum("out"), with_sum("only"),
                   with_sum("word"), with_sum(""))
        # A word is no name, also where a command was told.
        self.wrong(with_block(OUT_0, ("out", "out")), with_block(OUT_0, ("set", "x", "set")))

    def test_conditions(self):
        for one in CONDITIONS:
            self.right(with_condition(one), with_condition(("not", one)), with_condition(("and", CONDITIONS[0], one)))
            for at in range(len(one)):
                self.wrong(with_condition(one[:at] + one[at + 1:]), with_condition(one[:at] + (one[at],) + one[at:]))
            for word in ("From", "", "if", "add", "is", "below", [], {}, ("from",), None, 0):
                self.wrong(with_condition(bent(one, 0, word)))
        for one in SUMS:
            self.wrong(with_condition(one), with_condition(("not", one)), with_condition(("and", CONDITIONS[0], one)),
                       with_condition(("or", one, CONDITIONS[0])))
        self.wrong(with_condition(("from", CONDITIONS[0], 1)), with_condition(("same", 1, CONDITIONS[0])))

    def test_up_to_12_statements(self):
        for many in (1, 11, 12, 13, 14):
            self.assertIs(is_controller(with_block(*[OUT_0] * many)), many <= 12)
            block = (OUT_0,) * many
            self.assertIs(is_controller(with_block(("if", CONDITIONS[0], block, (OUT_0,)))), many <= 12)
            self.assertIs(is_controller(with_block(("if", CONDITIONS[0], (OUT_0,), block))), many <= 12)

    def test_sums_up_to_6_deep(self):
        for word in ("add", "less", "times", "least"):
            for deep in range(1, 9):
                if word == "least" and deep == 6:
                    # 32 branches: as deep as may be, but none for that.
                    continue
                one = deep_sum(deep, word)
                right = deep <= 6
                self.assertIs(is_controller(with_sum(one)), right)
                self.assertIs(is_controller(with_block(("set", "x", one), OUT_0)), right)
                self.assertIs(is_controller(with_sum(("add", one, 1))), deep <= 5)
                if word != "least":
                    self.assertIs(is_controller(with_condition(("from", one, 1))), right)
                    self.assertIs(is_controller(with_condition(("same", 1, one))), right)
        for deep, right in ((1, True), (2, True), (3, True), (6, True), (7, False)):
            self.assertIs(is_controller(with_sum(("clamp", deep_sum(deep - 1), 0, 1) if deep > 1 else 1)), right)
        self.right(with_sum(deep_sum(3, "clamp")), with_sum(tree(63)))
        self.wrong(with_sum(("add", tree(63), 1)), with_sum(("add", 1, tree(63))))

    def test_conditions_up_to_6_deep(self):
        plain = ("from", 1, 2)
        for wrap in (lambda one: ("not", one), lambda one: ("and", one, plain), lambda one: ("or", plain, one)):
            one = plain
            for deep in range(1, 9):
                self.assertIs(is_controller(with_condition(one)), deep <= 6, one)
                one = wrap(one)
        # Sums do not count: 6 deep conditions of 6 deep sums.
        one = ("from", deep_sum(6), 1)
        for _ in range(5):
            one = ("not", one)
        self.right(with_condition(one))
        self.wrong(with_condition(("not", one)))

    def test_blocks_up_to_4_deep(self):
        for wrap in (lambda block: ("if", ("from", 1, 2), block, ()), lambda block: ("if", ("from", 1, 2), (), block)):
            for inner in ((), (("go", "rest"),)):
                block = inner
                for deep in range(1, 7):
                    # () counts, too: what holds an "if" is two deep.
                    self.assertIs(is_controller(with_block(OUT_0, *block)), deep <= 4, block)
                    block = (wrap(block),)

    def test_whatever_nests_itself(self):
        one = "level"
        for _ in range(34):
            one = ("add", one, one)
        self.wrong(with_sum(one), with_block(OUT_0, one), one)
        condition = CONDITIONS[0]
        for _ in range(33):
            condition = ("and", condition, condition)
        self.wrong(with_condition(condition))
        block = (OUT_0,)
        for _ in range(16):
            block = (("if", CONDITIONS[0], block, block),) * 12
        self.wrong(with_block(*block), block, bent(TANK, 4, (("p", block),) * 4))


class Names(ControllerCase):
    def test_what_is_set(self):
        self.right(with_block(("set", "count", 1), OUT_0), with_block(("set", "other", 1), OUT_0),
                   with_block(("set", "rest", 1), ("out", "rest")))
        self.wrong(with_block(("set", "level", 1), OUT_0), with_block(("set", "out", 1), OUT_0),
                   with_block(("set", 5, 1), OUT_0), with_block(("set", "x2", 1), OUT_0))
        two = with_block(OUT_0, inputs=(("a", 0, 1), ("b", 0, 1)))
        self.wrong(bent(two, 4, (("p", (("set", "b", 1), OUT_0)),)))

    def test_ahead_of_where_they_stand(self):
        self.right(with_block(("set", "x", 1), ("out", "x")), with_block(("set", "x", 1), ("set", "x", ("add", "x", 1)),
                                                                          OUT_0))
        self.wrong(with_block(("out", "x"), ("set", "x", 1)), with_block(("set", "x", "x"), OUT_0),
                   with_block(("set", "x", ("add", 1, ("less", "x", "x"))), OUT_0), with_sum("x"))
        self.right(with_block(("set", "x", 1), ("if", ("from", "x", 1), (("out", "x"),), (("out", "x"),))))
        self.wrong(with_block(("if", ("from", "x", 1), (("set", "x", 1), OUT_0), (OUT_0,))))

    def test_on_each_way(self):
        x, y = ("set", "x", 1), ("set", "y", 2)
        use = ("out", "x")

        def parted(one, other):
            return ("if", CONDITIONS[0], one, other)

        self.right(with_block(parted((x,), (x,)), use), with_block(x, parted((y,), ()), use),
                   with_block(parted((x, use), (x,)), use), with_block(parted((y, x), (x,)), use),
                   with_block(parted((x,), (parted((x,), (x,)),)), use),
                   with_block(OUT_0, parted((x, use), ())), with_block(OUT_0, parted((), (x, use))))
        self.wrong(with_block(parted((x,), ()), use), with_block(parted((), (x,)), use),
                   with_block(parted((x,), (y,)), use), with_block(parted((x,), (parted((x,), (y,)),)), use),
                   with_block(OUT_0, parted((x,), (use,))), with_block(OUT_0, parted((), (use, x))),
                   with_block(parted((x,), ()), parted((), (x,)), use))
        # Ways are of the text: a condition that always is so takes none away.
        self.wrong(with_block(("if", ("from", 1, 0), (x,), ()), use))

    def test_locals_do_not_last(self):
        self.wrong(bent(TANK, 4, (("p", (("set", "x", 1), OUT_0)), ("q", (("out", "x"),)))))
        self.right(bent(TANK, 4, (("p", (("set", "x", 1), OUT_0)), ("q", (("set", "x", 2), ("out", "x"))))))

    def test_up_to_12_locals(self):
        names = ["x" + letter for letter in "abcdefghijklmnop"]
        for many in (1, 11, 12, 13, 14):
            sets = [("set", name, 1) for name in names[:many]]
            block = [("if", CONDITIONS[0], tuple(sets[:9]), tuple(sets[9:])), OUT_0]
            self.assertIs(is_controller(with_block(*block)), many <= 12, many)
            self.assertIs(is_controller(with_block(*block, ("set", "count", 1), ("set", "xa", 2))), many <= 12)
        sets = tuple(("set", name, 1) for name in names[:12])
        self.right(bent(TANK, 4, (("p", (("if", CONDITIONS[0], sets, ()), OUT_0)),
                                  ("q", (("if", CONDITIONS[0], (("set", "other", 1),), sets[1:]), OUT_0)))))

    def test_out_on_each_way(self):
        def parted(one, other):
            return ("if", CONDITIONS[0], one, other)

        out = (OUT_0,)
        self.right(with_block(parted(out, out)), with_block(OUT_0, parted((), ())), with_block(parted((), ()), OUT_0),
                   with_block(OUT_0, OUT_0, parted(out, ())), with_block(parted((parted(out, out),), out)))
        self.wrong(with_block(), with_block(("go", "rest")), with_block(parted((), ())), with_block(parted(out, ())),
                   with_block(parted((), out)), with_block(parted((parted(out, ()),), out)),
                   with_block(parted(out, ()), parted((), out)), with_block(("set", "x", 1)),
                   with_block(("if", ("from", 1, 0), out, ())))
        self.wrong(bent(TANK, 4, TANK[4] + (("more", ()),)))


class Counts(ControllerCase):
    def test_up_to_100_parts(self):
        # 1 + 63, 1 + 31, 1 + 1 and then so many of one each.
        block = [("out", tree(63)), ("out", tree(31)), ("set", "x", 1)]
        self.right(with_block(*block), with_block(*block, ("go", "rest")), with_block(*block, *[("go", "rest")] * 2))
        self.wrong(with_block(*block, *[("go", "rest")] * 3), with_block(*block, OUT_0, ("go", "rest")))
        self.right(with_block(*block, OUT_0))
        # What is too much may stand within the last sum or condition alone.
        self.wrong(with_block(*block, ("out", ("times", 1, "level"))), with_block(*block, ("out", ("add", 1, "level"))),
                   with_block(*block, ("if", ("not", ("from", 1, 2)), (), ())),
                   with_block(*block[:2], ("if", ("not", ("from", 1, 2)), (), ())))
        self.right(with_block(*block[:2], ("if", ("from", 1, 2), (), ())))

    def test_what_counts(self):
        # Each kind is one and what stands within it; the numbers of clamp and the word of times are none.
        ahead = [("out", tree(63)), ("out", tree(31))]
        names = "level"
        for statement, many in ((("out", names), 2), (("set", "x", 5), 2), (("go", "only"), 1),
                                (("out", ("times", 5, names)), 3), (("out", ("clamp", names, 0, 5)), 3),
                                (("out", ("add", names, 1)), 4), (("if", ("from", 1, names), (), ()), 4),
                                (("out", ("least", 1, 1)), 4), (("if", ("same", 1, 2), (), (("go", "only"),)), 5),
                                (("if", ("above", 1, 2), (("go", "only"),), ()), 5)):
            left = 100 - 96 - many
            self.assertIs(is_controller(with_block(*ahead, statement, *[("go", "rest")] * max(left, 0))), left >= 0)
            self.wrong(with_block(*ahead, statement, *[("go", "rest")] * (max(left, 0) + 1)))
        one = ("if", ("not", ("and", ("from", 1, 2), ("or", ("same", 1, 2), ("above", 1, 2)))), (), ())
        # 1 + 1 + 1 + 3 + 1 + 3 + 3.
        filler = [("out", tree(63)), ("out", tree(21)), ("set", "x", "level")]
        self.right(with_block(*filler[:2], one, ("go", "rest")))
        self.wrong(with_block(*filler[:2], one, ("go", "rest"), ("go", "rest")))

    def test_each_phase_by_itself(self):
        block = (("out", tree(63)), ("out", tree(31)), ("set", "x", 1), ("go", "p"), ("go", "p"))
        self.right(bent(TANK, 4, tuple((name, block) for name in "pqrs")))
        self.wrong(bent(TANK, 4, tuple((name, block + ((("go", "p"),) if name == "r" else ())) for name in "pqrs")))

    def test_up_to_24_branches(self):
        two, three = ("out", ("least", "level", 1)), ("out", ("clamp", "level", 0, 5))
        for threes in range(4):
            for twos in range(6):
                many = 3 ** threes * 2 ** twos
                self.assertIs(is_controller(with_block(OUT_0, *[two] * twos, *[three] * threes)), many <= 24, many)
        one = with_block(two, two, two, three)
        self.assertEqual(len(branches_of(one, 0)), 24)

    def test_ways_of_each_kind(self):
        plain, alike = ("from", "level", 1), ("same", "level", 1)
        two, more = (("out", ("greatest", "level", 1)),), (("out", 1),)
        for one, many in ((("if", plain, two, more), 3), (("if", alike, two, more), 4), (("if", alike, more, two), 5),
                          (("if", ("not", alike), two, more), 5), (("if", ("not", alike), more, two), 4),
                          (("if", ("and", plain, alike), two, more), 5), (("if", ("or", plain, alike), two, more), 6),
                          (("if", ("and", alike, plain), more, two), 7), (("if", ("or", alike, plain), more, two), 7),
                          (("if", ("above", ("clamp", "level", 0, 1), 1), two, more), 9),
                          (("if", ("same", ("least", "level", 0), ("least", "level", 1)), more, more), 12)):
            self.assertEqual(len(branches_of(with_block(one), 0)), many)
            self.assertEqual(len(branches_by_hand(with_block(one), 0)), many)
            for twos in range(5):
                self.assertIs(is_controller(with_block(one, *two * twos)), many * 2 ** twos <= 24)

    def test_alike_ones_and_void_ones_count(self):
        # 5 from 1 to 3 in each of them: just one guard of three holds, whatever comes.
        one = ("out", ("clamp", 5, 1, 3))
        self.right(with_block(one, one))
        self.wrong(with_block(one, one, one))
        self.wrong(with_block(OUT_0, *[("if", ("same", 1, 1), (), ())] * 3))
        self.right(with_block(OUT_0, *[("if", ("same", 1, 1), (), ())] * 2, ("if", ("from", 1, 1), (), ())))
        self.wrong(with_block(OUT_0, *[("if", ("from", 1, 1), (), ())] * 5))

    def test_25_branches(self):
        two, three = ("out", ("least", "level", 1)), ("out", ("clamp", "level", 0, 5))
        full = (two, two, two, three)
        self.right(with_block(("if", ("from", 1, 2), (two, two, three), (two, two, three))))
        self.wrong(with_block(("if", ("from", 1, 2), full, (OUT_0,))), with_block(("if", ("from", 1, 2), (OUT_0,), full)))
        self.wrong(with_block(("if", ("same", 1, 2), (OUT_0,), (two, two, three))))
        self.right(with_block(("if", ("same", 1, 2), (two, two, three), (OUT_0,))))

    def test_random_ones(self):
        source, seen = random.Random(13), [0, 0]
        for _ in range(400):
            maker = Maker(source, source.choice((4, 8, 32)))
            one = maker.controller()
            fit = all(len(branches_by_hand(one, phase, 25)) <= 24 for phase in range(len(one[4])))
            small = all(self.count(block) <= 100 for _, block in one[4])
            self.assertIs(is_controller(one), fit and small)
            seen[fit and small] += 1
        self.assertGreater(min(seen), 30)

    def count(self, value):
        """How many statements, conditions and sums stand in a block, a statement, a condition or a sum."""
        if not isinstance(value, tuple):
            return 1
        if value == () or isinstance(value[0], tuple):
            return sum(self.count(part) for part in value)
        word, *parts = value
        parts = {"set": parts[1:], "go": [], "times": parts[1:], "clamp": parts[:1]}.get(word, parts)
        return 1 + sum(self.count(part) for part in parts)


if __name__ == "__main__":
    unittest.main()
