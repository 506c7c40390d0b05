"""[1.4]: group, joined, filled and count."""

import itertools
import unittest

from helper import CUT, LINE, all_sides, beside, many_plans, short_time, text
from printwell.errors import BadBits
from printwell.plans import count, filled, group, joined, laid

EITHER = ("choice", text("a"), text("b"))


class GroupTest(unittest.TestCase):
    def test_is_a_choice_of_the_plan_flat_or_the_plan(self):
        for plan in (text("a"), LINE, EITHER, beside(text("a"), LINE, text("b"))):
            self.assertEqual(group(plan), ("choice", ("flat", plan), plan))

    def test_side_0_is_flat(self):
        plan = group(("nest", 2, beside(text("a"), LINE, text("b"), CUT, text("c"))))
        self.assertEqual(laid(plan, [0]), "a bc")
        self.assertEqual(laid(plan, [1]), "a\n  b\n  c")

    def test_group_within_group(self):
        plan = group(beside(text("a"), LINE, group(beside(text("b"), LINE, text("c")))))
        self.assertEqual(laid(plan, [0, 0]), "a b c")
        self.assertEqual(laid(plan, [0, 1]), "a b c")
        self.assertEqual(laid(plan, [1, 0]), "a\nb c")
        self.assertEqual(laid(plan, [1, 1]), "a\nb\nc")


class JoinedTest(unittest.TestCase):
    def test_of_none_is_an_empty_text(self):
        self.assertEqual(joined([]), ("text", ""))

    def test_of_one_lays_out_as_that_one(self):
        self.assertEqual(laid(joined([text("a")]), []), "a")
        self.assertEqual(laid(joined([LINE]), []), "\n")
        self.assertEqual(laid(joined([EITHER]), [1]), "b")

    def test_of_two(self):
        self.assertEqual(joined([text("a"), LINE]), ("beside", text("a"), LINE))

    def test_of_several_in_order(self):
        for length in range(2, 12):
            signs = "abcdefghijkl"[:length]
            self.assertEqual(laid(joined([text(sign) for sign in signs]), []), signs)

    def test_choices_are_met_in_order(self):
        plan = joined([EITHER, LINE, EITHER, EITHER])
        self.assertEqual(laid(plan, [0, 1, 0]), "a\nba")
        self.assertEqual(laid(plan, [1, 0, 0]), "b\naa")

    def test_same_plan_several_times(self):
        self.assertEqual(laid(joined([text("a")] * 5), []), "aaaaa")

    def test_a_long_list(self):
        plan = joined([text("a"), LINE] * 1000)
        self.assertEqual(laid(plan, []), "a\n" * 1000)
        self.assertEqual(count(plan), 1)

    def test_the_list_is_neither_changed_nor_kept(self):
        plans = [text("a"), LINE, text("b")]
        plan = joined(plans)
        self.assertEqual(plans, [text("a"), LINE, text("b")])
        plans[0] = text("c")
        plans.append(text("d"))
        self.assertEqual(laid(plan, []), "a\nb")


class FilledTest(unittest.TestCase):
    def test_of_none_is_an_empty_text(self):
        self.assertEqual(filled([]), ("text", ""))

    def test_of_one_has_no_choice(self):
        self.assertEqual(laid(filled(["word"]), []), "word")
        self.assertEqual(count(filled(["word"])), 1)

    def test_of_two_is_a_group_of_a_line_between(self):
        plan = filled(["a", "b"])
        self.assertEqual(laid(plan, [0]), "a b")
        self.assertEqual(laid(plan, [1]), "a\nb")
        self.assertEqual(count(plan), 2)

    def test_each_break_is_chosen_by_itself(self):
        plan = filled(["one", "two", "three", "four"])
        for sides in itertools.product([0, 1], repeat=3):
            ends = [" \n"[side] for side in sides]
            wanted = f"one{ends[0]}two{ends[1]}three{ends[2]}four"
            self.assertEqual(laid(plan, list(sides)), wanted)
        self.assertEqual(count(plan), 8)

    def test_empty_words_and_words_with_blanks(self):
        self.assertEqual(laid(filled(["", "a b", ""]), [0, 1]), " a b\n")

    def test_the_list_is_neither_changed_nor_kept(self):
        words = ["a", "b"]
        plan = filled(words)
        self.assertEqual(words, ["a", "b"])
        words.append("c")
        words[0] = "d"
        self.assertEqual(laid(plan, [0]), "a b")


class CountTest(unittest.TestCase):
    def assert_counts(self, wanted, plans):
        for plan in plans:
            with self.subTest(plan=plan):
                self.assertEqual(count(plan), wanted)

    def test_one_without_a_choice(self):
        inner = beside(text("a"), LINE)
        self.assert_counts(1, [
            text("a"), text(""), LINE, CUT, inner,
            ("nest", 3, inner), ("nest", 0, LINE), ("align", inner), ("flat", inner),
        ])

    def test_a_choice_counts_both_sides(self):
        self.assert_counts(2, [EITHER, ("choice", LINE, LINE), group(LINE)])

    def test_a_choice_within_each_other_kind(self):
        self.assert_counts(2, [
            ("nest", 4, EITHER), ("align", EITHER), ("flat", EITHER),
            ("beside", EITHER, LINE), ("beside", LINE, EITHER),
        ])
        self.assert_counts(3, [("choice", EITHER, LINE), ("choice", LINE, EITHER)])

    def test_choices_beside_one_another_multiply(self):
        three = ("choice", EITHER, CUT)
        self.assert_counts(4, [beside(EITHER, EITHER)])
        self.assert_counts(6, [beside(EITHER, three), beside(three, text("x"), EITHER)])
        self.assert_counts(2 ** 20, [joined([EITHER] * 20)])

    def test_choices_within_one_another_add(self):
        self.assert_counts(4, [("choice", EITHER, EITHER), group(EITHER)])
        self.assert_counts(5, [("choice", beside(EITHER, EITHER), LINE)])
        self.assert_counts(10, [beside(("choice", beside(EITHER, EITHER), LINE), ("nest", 1, EITHER))])

    def test_groups_within_groups(self):
        plan = LINE
        for deep in range(1, 13):
            plan = group(plan)
            self.assertEqual(count(plan), 2 ** deep)

    def test_plans_that_hold_one_plan_in_very_many_places(self):
        grouped = LINE
        twice = EITHER
        for step in range(60):
            grouped = group(beside(text("a"), ("nest", 1, grouped)))
            twice = ("choice", ("align", twice), twice)
        with short_time():
            self.assertEqual(count(grouped), 2 ** 60)
            self.assertEqual(count(twice), 2 ** 61)

    def test_a_deep_plan(self):
        plan = EITHER
        for step in range(2000):
            plan = [("nest", 1, plan), ("align", plan), ("flat", plan), ("beside", plan, LINE)][step % 4]
        self.assertEqual(count(plan), 2)

    def test_as_many_as_fit(self):
        for plan in many_plans(60, 4, 12):
            self.assertEqual(count(plan), len(all_sides(plan)))
            self.assertEqual(count(plan), self.how_many_fit(plan))

    def how_many_fit(self, plan):
        longest = max(len(sides) for sides in all_sides(plan))
        fitting = 0
        for length in range(longest + 2):
            for sides in itertools.product([0, 1], repeat=length):
                try:
                    laid(plan, list(sides))
                except BadBits:
                    continue
                fitting += 1
        return fitting
