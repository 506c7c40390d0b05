"""[1.1], [1.2] and [1.3]: plans of every kind laid out, and sides that do not fit."""

import unittest

from helper import CUT, LINE, all_sides, beside, many_plans, slowly_laid, text
from printwell.errors import BadBits, PrintError
from printwell.plans import group, laid

X = text("x")
Y = text("y")
BREAK_Y = ("beside", LINE, Y)

# Each with the sides that it takes by itself.
INNER = {
    "text": (X, []),
    "empty": (text(""), []),
    "line": (LINE, []),
    "cut": (CUT, []),
    "nest": (("nest", 3, BREAK_Y), []),
    "nest by 0": (("nest", 0, BREAK_Y), []),
    "align": (("align", BREAK_Y), []),
    "flat": (("flat", BREAK_Y), []),
    "beside": (BREAK_Y, []),
    "choice 0": (("choice", LINE, X), [0]),
    "choice 1": (("choice", LINE, X), [1]),
}

# Behind the text ab and ahead of the text z, with nothing round them.
AS_THEY_ARE = {
    "text": "abxz",
    "empty": "abz",
    "line": "ab\nz",
    "cut": "ab\nz",
    "nest": "ab\n   yz",
    "nest by 0": "ab\nyz",
    "align": "ab\n  yz",
    "flat": "ab yz",
    "beside": "ab\nyz",
    "choice 0": "ab\nz",
    "choice 1": "abxz",
}


class KindsWithinKindsTest(unittest.TestCase):
    """Each kind within the one that is put round it, behind the text ab and ahead of the text z."""

    def check(self, wrap, wanted, first_sides=()):
        self.assertEqual(sorted(wanted), sorted(INNER))
        for name, (inner, sides) in INNER.items():
            with self.subTest(inner=name):
                plan = beside(text("ab"), wrap(inner), text("z"))
                self.assertEqual(laid(plan, list(first_sides) + sides), wanted[name])

    def test_within_nothing(self):
        self.check(lambda inner: inner, AS_THEY_ARE)

    def test_within_nest(self):
        self.check(lambda inner: ("nest", 4, inner), {
            "text": "abxz",
            "empty": "abz",
            "line": "ab\n    z",
            "cut": "ab\n    z",
            "nest": "ab\n       yz",
            "nest by 0": "ab\n    yz",
            "align": "ab\n  yz",
            "flat": "ab yz",
            "beside": "ab\n    yz",
            "choice 0": "ab\n    z",
            "choice 1": "abxz",
        })

    def test_within_nest_by_0(self):
        self.check(lambda inner: ("nest", 0, inner), AS_THEY_ARE)

    def test_within_align(self):
        self.check(lambda inner: ("align", inner), {
            "text": "abxz",
            "empty": "abz",
            "line": "ab\n  z",
            "cut": "ab\n  z",
            "nest": "ab\n     yz",
            "nest by 0": "ab\n  yz",
            "align": "ab\n  yz",
            "flat": "ab yz",
            "beside": "ab\n  yz",
            "choice 0": "ab\n  z",
            "choice 1": "abxz",
        })

    def test_within_flat(self):
        self.check(lambda inner: ("flat", inner), {
            "text": "abxz",
            "empty": "abz",
            "line": "ab z",
            "cut": "abz",
            "nest": "ab yz",
            "nest by 0": "ab yz",
            "align": "ab yz",
            "flat": "ab yz",
            "beside": "ab yz",
            "choice 0": "ab z",
            "choice 1": "abxz",
        })

    def test_first_in_beside(self):
        self.check(lambda inner: ("beside", inner, text("-")), {
            "text": "abx-z",
            "empty": "ab-z",
            "line": "ab\n-z",
            "cut": "ab\n-z",
            "nest": "ab\n   y-z",
            "nest by 0": "ab\ny-z",
            "align": "ab\n  y-z",
            "flat": "ab y-z",
            "beside": "ab\ny-z",
            "choice 0": "ab\n-z",
            "choice 1": "abx-z",
        })

    def test_second_in_beside(self):
        self.check(lambda inner: ("beside", text("-"), inner), {
            "text": "ab-xz",
            "empty": "ab-z",
            "line": "ab-\nz",
            "cut": "ab-\nz",
            "nest": "ab-\n   yz",
            "nest by 0": "ab-\nyz",
            "align": "ab-\n   yz",
            "flat": "ab- yz",
            "beside": "ab-\nyz",
            "choice 0": "ab-\nz",
            "choice 1": "ab-xz",
        })

    def test_first_in_choice(self):
        self.check(lambda inner: ("choice", inner, text("!")), AS_THEY_ARE, [0])

    def test_second_in_choice(self):
        self.check(lambda inner: ("choice", text("!"), inner), AS_THEY_ARE, [1])


class KindsByThemselvesTest(unittest.TestCase):
    def check(self, wanted, plan, sides=()):
        self.assertEqual(laid(plan, list(sides)), wanted)

    def test_text(self):
        self.check("word", text("word"))
        self.check("", text(""))
        self.check("  a b  ", text("  a b  "))
        self.check("x" * 40, text("x" * 40))

    def test_breaks(self):
        self.check("\n", LINE)
        self.check("\n", CUT)
        self.check(" ", ("flat", LINE))
        self.check("", ("flat", CUT))

    def test_every_break_begins_a_row(self):
        self.check("\n\n\n", beside(LINE, CUT, LINE))
        self.check("a\n\nb", beside(text("a"), LINE, LINE, text("b")))

    def test_an_empty_row_has_the_blanks_of_its_margin(self):
        self.check("\n   \n   a", ("nest", 3, beside(LINE, CUT, text("a"))))
        self.check("a\n  ", ("nest", 2, beside(text("a"), LINE)))

    def test_nest_leaves_the_first_row_as_it_is(self):
        self.check("a", ("nest", 40, text("a")))
        self.check("a\n" + " " * 40 + "b", ("nest", 40, beside(text("a"), LINE, text("b"))))

    def test_nests_add_up(self):
        inner = beside(LINE, text("a"))
        self.check("\n     a", ("nest", 2, ("nest", 3, inner)))
        self.check("\n  b\n     a\n  c", ("nest", 2, beside(LINE, text("b"), ("nest", 3, inner), LINE, text("c"))))

    def test_the_margin_is_as_before_behind_nest_and_align(self):
        nested = ("nest", 4, beside(LINE, text("a")))
        self.check("\n    a\nb", beside(nested, LINE, text("b")))
        aligned = ("align", beside(LINE, text("a")))
        self.check("ab\n  a\nb", beside(text("ab"), aligned, LINE, text("b")))

    def test_align_where_the_row_begins(self):
        self.check("a\nb", ("align", beside(text("a"), LINE, text("b"))))

    def test_align_behind_a_text_in_the_same_row(self):
        self.check("abc(x\n    y", beside(text("abc("), ("align", beside(X, LINE, Y))))

    def test_align_behind_several_texts_and_flat_breaks(self):
        ahead = ("flat", beside(text("ab"), LINE, text("c"), CUT))
        self.check("ab c\n    y", beside(ahead, ("align", BREAK_Y)))

    def test_align_takes_the_margin_of_its_row_along(self):
        plan = ("nest", 2, beside(LINE, text("ab"), ("align", BREAK_Y)))
        self.check("\n  ab\n    y", plan)

    def test_align_in_a_nest_forgets_the_nest(self):
        self.check("ab\n  y", ("nest", 9, beside(text("ab"), ("align", BREAK_Y))))

    def test_nest_in_an_align_adds_to_it(self):
        self.check("ab\n     y", beside(text("ab"), ("align", ("nest", 3, BREAK_Y))))

    def test_align_counts_the_row_that_it_is_in_alone(self):
        self.check("long\na\n y", beside(text("long"), LINE, text("a"), ("align", BREAK_Y)))

    def test_align_within_align(self):
        inner = ("align", BREAK_Y)
        self.check("abcd\n    y\n  x", beside(text("ab"), ("align", beside(text("cd"), inner, LINE, X))))

    def test_flat_all_through(self):
        inside = beside(("nest", 2, LINE), ("align", CUT), ("flat", LINE), ("choice", LINE, CUT), LINE)
        self.check("    ", ("flat", inside), [0])
        self.check("   ", ("flat", inside), [1])

    def test_flat_ends_where_its_plan_ends(self):
        self.check(" \n", beside(("flat", LINE), LINE))
        self.check("\n ", beside(LINE, ("flat", LINE)))
        self.check("a b\nc", beside(("flat", beside(text("a"), LINE, ("flat", text("b")))), LINE, text("c")))

    def test_flat_stays_behind_a_flat_within_it(self):
        self.check("  ", ("flat", beside(("flat", LINE), LINE)))

    def test_beside_goes_on_where_the_first_ended(self):
        self.check("a\nbc", beside(beside(text("a"), LINE, text("b")), text("c")))

    def test_choice(self):
        self.check("x", ("choice", X, Y), [0])
        self.check("y", ("choice", X, Y), [1])

    def test_choices_in_the_order_in_which_they_are_met(self):
        inner = ("choice", text("c"), text("d"))
        plan = beside(("choice", ("choice", text("a"), text("b")), Y), inner)
        self.check("ad", plan, [0, 0, 1])
        self.check("bc", plan, [0, 1, 0])
        self.check("yd", plan, [1, 1])

    def test_many_plans_against_the_plain_way(self):
        for plan in many_plans(400, 5, 32):
            for sides in all_sides(plan):
                self.assertEqual(laid(plan, sides), slowly_laid(plan, sides), (plan, sides))

    def test_deep_plans(self):
        plan = text("a")
        for step in range(2000):
            plan = [("nest", 1, plan), ("align", plan), ("flat", plan), ("choice", plan, X)][step % 4]
        self.check("a", plan, [0] * 500)

    def test_the_same_text_each_time(self):
        plan = beside(text("ab"), group(("align", BREAK_Y)))
        self.assertEqual([laid(plan, [1]) for again in range(3)], ["ab\n  y"] * 3)


class SidesTest(unittest.TestCase):
    PLAIN = beside(text("a"), LINE)
    ONE = ("choice", X, Y)
    TWO = beside(ONE, ONE)
    # A second choice is met on side 0 alone, two more on side 1.
    UNEVEN = ("choice", ("flat", ONE), ("nest", 2, TWO))

    def refuse(self, plan, sides):
        handed_in = list(sides)
        with self.subTest(plan=plan, sides=sides):
            with self.assertRaises(BadBits) as taken:
                laid(plan, handed_in)
            self.assertIsInstance(taken.exception, PrintError)
            self.assertIsInstance(taken.exception, ValueError)
            self.assertEqual(handed_in, sides)

    def accept(self, plan, sides, wanted):
        handed_in = list(sides)
        with self.subTest(plan=plan, sides=sides):
            self.assertEqual(laid(plan, handed_in), wanted)
            self.assertEqual(handed_in, sides)

    def test_sides_that_fit(self):
        self.accept(self.PLAIN, [], "a\n")
        self.accept(self.ONE, [0], "x")
        self.accept(self.ONE, [1], "y")
        self.accept(self.TWO, [0, 1], "xy")
        self.accept(self.TWO, [1, 0], "yx")

    def test_too_few(self):
        self.refuse(self.ONE, [])
        self.refuse(self.TWO, [])
        self.refuse(self.TWO, [0])
        self.refuse(self.TWO, [1])

    def test_too_many(self):
        self.refuse(self.PLAIN, [0])
        self.refuse(self.PLAIN, [1])
        self.refuse(self.ONE, [0, 0])
        self.refuse(self.ONE, [1, 1])
        self.refuse(self.TWO, [0, 1, 0])
        self.refuse(self.TWO, [0] * 200)

    def test_another_whole_number_where_a_choice_is_met(self):
        for number in (2, 3, -1, -2, -3, 10 ** 30, -(10 ** 30)):
            self.refuse(self.ONE, [number])
            self.refuse(self.TWO, [number, 0])
            self.refuse(self.TWO, [0, number])
            self.refuse(("flat", ("nest", 1, ("align", self.ONE))), [number])

    def test_another_whole_number_where_no_choice_is_met(self):
        for number in (2, -1):
            self.refuse(self.PLAIN, [number])
            self.refuse(self.ONE, [0, number])

    def test_choices_on_one_side_of_another(self):
        self.accept(self.UNEVEN, [0, 1], "y")
        self.accept(self.UNEVEN, [1, 0, 1], "xy")
        self.refuse(self.UNEVEN, [0])
        self.refuse(self.UNEVEN, [1])
        self.refuse(self.UNEVEN, [1, 0])
        self.refuse(self.UNEVEN, [0, 1, 0])
        self.refuse(self.UNEVEN, [1, 0, 1, 0])
        only_right = ("choice", X, self.ONE)
        self.accept(only_right, [0], "x")
        self.accept(only_right, [1, 0], "x")
        self.refuse(only_right, [1])
        self.refuse(only_right, [0, 0])

    def test_choices_in_one_row_are_met_too(self):
        self.accept(("flat", self.TWO), [1, 1], "yy")
        self.refuse(("flat", self.TWO), [1])
        self.refuse(("flat", self.TWO), [1, 1, 1])

    def test_sides_of_many_plans(self):
        for plan in many_plans(100, 4, 16):
            for sides in all_sides(plan):
                self.refuse(plan, sides + [0])
                self.refuse(plan, sides + [1])
                for place in range(len(sides)):
                    self.refuse(plan, sides[:place])
                    self.refuse(plan, sides[:place] + [2] + sides[place + 1:])
