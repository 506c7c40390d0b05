"""[2.1], [0.1] and [0.2]: the best way to lay out a plan."""

import random
import unittest

from helper import (
    CUT, LINE, all_sides, beside, best_by_columns, best_of_all, many_plans, short_time, slowly_laid, some_large_plan,
    text,
)
from printwell.best import choose, printed
from printwell.plans import cost_of, count, filled, group, joined, laid

WIDTHS = (0, 1, 2, 3, 5, 8, 12, 200)
A_B = beside(text("a"), LINE, text("b"))


class OfAllTest(unittest.TestCase):
    """Plans with so few rows of sides that all can be gone through."""

    def check(self, plan, widths=WIDTHS):
        for width in widths:
            with self.subTest(plan=plan, width=width):
                told = choose(plan, width)
                self.assertIsInstance(told, tuple)
                beyond, breaks, sides = told
                self.assertIsInstance(sides, list)
                self.assertEqual(cost_of(slowly_laid(plan, sides), width), (beyond, breaks))
                self.assertEqual(told, best_of_all(plan, width))
                self.assertEqual(printed(plan, width), slowly_laid(plan, sides))

    def test_many_plans(self):
        for plan in many_plans(500, 5, 64):
            self.check(plan)

    def test_many_groups_of_plans(self):
        for plan in many_plans(100, 3, 6):
            self.check(group(plan))
            self.check(("nest", 3, beside(text("ab"), group(("align", plan)), text("cde"))))
            self.check(("flat", beside(group(plan), plan)))

    def test_choices_within_and_beside_one_another(self):
        short = ("choice", text("abcd"), text("ab"))
        broken = ("choice", text(" "), LINE)
        for inner in (short, broken, beside(short, broken), beside(broken, short), ("choice", short, broken)):
            for wrapped in (inner, ("nest", 2, inner), ("align", inner), ("flat", inner), group(inner)):
                self.check(beside(inner, wrapped))
                self.check(beside(text("abc"), wrapped, inner, text("de")))
                self.check(("choice", beside(wrapped, text("abc")), beside(inner, wrapped)))

    def test_every_kind_on_both_sides(self):
        sides = [text(""), text("abc"), LINE, CUT, ("nest", 2, LINE), ("align", LINE), ("flat", LINE), A_B, group(A_B)]
        for first in sides:
            for second in sides:
                self.check(beside(text("xy"), ("choice", first, second), text("z")), (0, 2, 4, 200))


class OneRowOfSidesTest(unittest.TestCase):
    def check(self, plan, width, beyond, breaks):
        self.assertEqual(choose(plan, width), (beyond, breaks, []))
        self.assertEqual(printed(plan, width), laid(plan, []))

    def test_plans_without_a_choice(self):
        self.check(text("abc"), 2, 1, 0)
        self.check(text(""), 0, 0, 0)
        self.check(LINE, 0, 0, 1)
        self.check(CUT, 200, 0, 1)
        self.check(("flat", LINE), 0, 1, 0)
        self.check(("flat", CUT), 0, 0, 0)
        self.check(A_B, 0, 2, 1)
        self.check(("align", beside(text("abc"), ("align", A_B))), 3, 2, 1)

    def test_blanks_of_a_margin_stand_beyond_too(self):
        self.check(("nest", 7, LINE), 4, 3, 1)
        self.check(("nest", 7, beside(LINE, LINE)), 0, 14, 2)
        self.check(("nest", 7, beside(LINE, text("ab"))), 4, 5, 1)


class OrderTest(unittest.TestCase):
    def check(self, plan, width, told, wanted):
        self.assertEqual(choose(plan, width), told)
        self.assertEqual(printed(plan, width), wanted)

    def test_fewest_signs_beyond_ahead_of_line_ends(self):
        plan = ("choice", text("abcd"), beside(text("a"), LINE, LINE, LINE, text("b")))
        self.check(plan, 4, (0, 0, [0]), "abcd")
        self.check(plan, 3, (0, 3, [1]), "a\n\n\nb")

    def test_as_few_beyond_and_fewest_line_ends(self):
        plan = ("choice", A_B, text("ab"))
        self.check(plan, 2, (0, 0, [1]), "ab")
        self.check(plan, 0, (2, 0, [1]), "ab")
        self.check(plan, 1, (0, 1, [0]), "a\nb")

    def test_line_ends_that_save_nothing_are_not_taken(self):
        words = filled(["abcdef", "abcdef"])
        self.check(words, 13, (0, 0, [0]), "abcdef abcdef")
        self.check(words, 12, (0, 1, [1]), "abcdef\nabcdef")
        self.check(words, 0, (12, 1, [1]), "abcdef\nabcdef")

    def test_first_sides_of_equal_ones(self):
        same = ("choice", text("ab"), text("cd"))
        self.check(same, 9, (0, 0, [0]), "ab")
        self.check(same, 0, (2, 0, [0]), "ab")
        self.check(beside(same, same), 9, (0, 0, [0, 0]), "abab")
        self.check(("choice", same, text("xy")), 9, (0, 0, [0, 0]), "ab")
        self.check(("choice", text("xy"), same), 9, (0, 0, [0]), "xy")
        self.check(("choice", text("abc"), same), 2, (0, 0, [1, 0]), "ab")

    def test_where_they_first_differ_counts(self):
        # One of both must be short: then it is the second.
        long_or_short = ("choice", text("abcd"), text("a"))
        self.check(beside(long_or_short, long_or_short), 5, (0, 0, [0, 1]), "abcda")
        self.check(beside(long_or_short, long_or_short, long_or_short), 6, (0, 0, [0, 1, 1]), "abcdaa")
        # One of both must break: then it is the second.
        three = filled(["ab", "ab", "ab"])
        self.check(three, 5, (0, 1, [0, 1]), "ab ab\nab")

    def test_a_longer_end_is_taken_where_it_costs_nothing(self):
        plan = beside(("choice", text("abcdef"), text("a")), LINE, text("z"))
        self.check(plan, 6, (0, 1, [0]), "abcdef\nz")
        self.check(plan, 5, (0, 1, [1]), "a\nz")

    def test_a_text_behind_a_choice_decides_it(self):
        ahead = beside(text("ab"), group(LINE))
        self.check(beside(ahead, text("cdef")), 7, (0, 0, [0]), "ab cdef")
        self.check(beside(ahead, text("cdefg")), 7, (0, 1, [1]), "ab\ncdefg")
        self.check(beside(("nest", 1, ahead), text("cd"), text("ef"), text("g")), 7, (0, 1, [1]), "ab\n cdefg")
        self.check(beside(("align", ("flat", ahead)), text("cdefg")), 7, (1, 0, [0]), "ab cdefg")

    def test_a_text_behind_several_choices_decides_an_early_one(self):
        word = ("choice", text("abc"), text("a"))
        plan = beside(word, group(CUT), word, text("long tail"))
        self.check(plan, 15, (0, 0, [0, 0, 0]), "abcabclong tail")
        self.check(plan, 14, (0, 0, [0, 0, 1]), "abcalong tail")
        self.check(plan, 12, (0, 0, [1, 0, 1]), "aalong tail")
        self.check(plan, 10, (0, 1, [0, 1, 1]), "abc\nalong tail")

    def test_a_margin_decides(self):
        plan = ("choice", ("nest", 8, A_B), beside(text("abcdef"), LINE, text("b")))
        self.check(plan, 9, (0, 1, [0]), "a\n        b")
        self.check(plan, 8, (0, 1, [1]), "abcdef\nb")

    def test_blanks_beyond_decide(self):
        plan = ("choice", beside(text("a"), ("nest", 5, LINE)), beside(text("a"), LINE, LINE))
        self.check(plan, 5, (0, 1, [0]), "a\n     ")
        self.check(plan, 4, (0, 2, [1]), "a\n\n")

    def test_choices_in_one_row_are_told_too(self):
        self.check(("flat", beside(group(LINE), group(CUT))), 9, (0, 0, [0, 0]), " ")
        self.check(group(group(group(A_B))), 9, (0, 0, [0, 0, 0]), "a b")
        self.check(group(group(group(A_B))), 1, (0, 1, [1, 1, 1]), "a\nb")
        self.check(("flat", ("choice", LINE, CUT)), 0, (0, 0, [1]), "")


class ManyRowsOfSidesTest(unittest.TestCase):
    """Plans whose rows of sides are far too many to go through."""

    def check(self, plan, widths=(0, 1, 7, 20, 40, 79, 200)):
        with short_time():
            self.assertGreater(count(plan), 10 ** 5)
            for width in widths:
                told = choose(plan, width)
                self.assertEqual(told, best_by_columns(plan, width))
                self.assertEqual(printed(plan, width), laid(plan, told[2]))
                self.assertEqual(cost_of(printed(plan, width), width), told[:2])

    def test_thirty_groups_beside_one_another(self):
        self.check(joined([group(beside(text("x" * (step % 7)), LINE)) for step in range(30)]))
        self.check(filled(["x" * (1 + step * 5 % 9) for step in range(31)]))
        self.check(("align", filled(["abc"] * 31)))

    def test_a_known_answer(self):
        plan = filled(["abc"] * 31)
        self.assertEqual(choose(plan, 200), (0, 0, [0] * 30))
        self.assertEqual(choose(plan, 3), (0, 30, [1] * 30))
        self.assertEqual(choose(plan, 0), (93, 30, [1] * 30))
        # Seven words fill a row; the first rows are the full ones.
        self.assertEqual(choose(plan, 27), (0, 4, ([0] * 6 + [1]) * 4 + [0] * 2))

    def test_groups_one_behind_another_as_deep_as_may_be(self):
        plan = text("z")
        for step in range(24):
            plan = ("beside", ("choice", text("x" * (step % 5)), LINE), plan)
        self.check(("nest", 3, ("align", ("nest", 1, plan))))

    def test_groups_within_groups_as_deep_as_may_be(self):
        plan = text("z")
        for step in range(14):
            plan = group(plan)
        with short_time():
            self.assertEqual(choose(plan, 0), (1, 0, [0] * 14))
        plan = beside(text("z"), *[group(LINE)] * 10)
        for step in range(9):
            plan = group(("beside", text("x" * step), plan))
        self.check(plan)

    def test_groups_with_nests_and_aligns_within_one_another(self):
        plan = text("z")
        for step in range(7):
            plan = group(beside(text("fun("), ("nest", 2, beside(CUT, plan, text(","), LINE, plan)), text(")")))
        self.check(plan)

    def test_aligned_choices_within_one_another(self):
        plan = text("z")
        for step in range(13):
            broken = beside(LINE, text("x" * (step * 3 % 11)))
            plan = beside(("choice", text("x" * (40 - step * 7 % 19)), broken), ("align", plan))
        self.check(beside(plan, filled(["ab"] * 6)), (0, 40, 200))

    def test_both_sides_the_same(self):
        plan = A_B
        for step in range(29):
            plan = ("choice", plan, plan)
        with short_time():
            self.assertEqual(count(plan), 2 ** 29)
            self.assertEqual(choose(plan, 1), (0, 1, [0] * 29))

    def test_the_same_behind_both_sides(self):
        plan = text("z")
        for step in range(12):
            plan = ("choice", ("beside", text("x" * (step % 4)), plan), ("beside", LINE, plan))
        with short_time():
            self.assertEqual(choose(plan, 3), best_by_columns(plan, 3))
            self.assertEqual(count(plan), 2 ** 12)

    def test_large_plans_of_all_kinds(self):
        source = random.Random(22)
        many = 0
        with short_time(60):
            for longest in (3, 8, 40):
                for number in range(40):
                    plan = some_large_plan(source, 100, 30, longest)
                    many += count(plan) > 10 ** 5
                    for width in (0, 1, source.randrange(2, 30), source.randrange(30, 120), 200):
                        self.assertEqual(choose(plan, width), best_by_columns(plan, width), (plan, width))
        self.assertGreater(many, 10)

    def test_somewhat_beyond_the_bounds(self):
        plan = text("x" * 50)
        for step in range(60):
            plan = ("beside", group(("nest", 50, LINE)), plan)
        with short_time():
            self.assertEqual(choose(plan, 250), best_by_columns(plan, 250))


class HandedInAndToldTest(unittest.TestCase):
    PLAN = beside(text("ab"), group(("align", beside(LINE, text("cd")))), group(LINE), text("ef"))

    def test_the_list_of_sides_is_a_new_one_each_time(self):
        first = choose(self.PLAN, 5)
        wanted = list(first[2])
        self.assertTrue(wanted)
        first[2].append(7)
        first[2][0] = 9
        second = choose(self.PLAN, 5)
        self.assertEqual(second[2], wanted)
        second[2].clear()
        self.assertEqual(choose(self.PLAN, 5)[2], wanted)
        empty = choose(text("a"), 5)
        empty[2].append(1)
        self.assertEqual(choose(text("a"), 5)[2], [])

    def test_another_width_or_plan_between_changes_nothing(self):
        first = [choose(self.PLAN, width) for width in range(12)]
        choose(("align", self.PLAN), 3)
        self.assertEqual([choose(self.PLAN, width) for width in reversed(range(12))], first[::-1])

    def test_the_told_sides_fit_the_plan(self):
        for plan in many_plans(60, 4, 30):
            for width in (0, 4, 200):
                self.assertIn(choose(plan, width)[2], all_sides(plan))
