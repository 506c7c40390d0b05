"""[4.1], [4.2], [4.3] and [0.2]: expressions put in form, and read back."""

import unittest

from helper import CUT, LINE, best_by_columns, many_trees, short_time, text
from printwell.best import choose, printed
from printwell.errors import BadText
from printwell.forms import formatted, plan_of
from printwell.plans import count, group, laid
from printwell.reading import read

A = ("name", "a")
B = ("name", "b")
C = ("name", "c")
WIDTHS = (0, 1, 2, 3, 5, 8, 13, 20, 30, 40, 60, 80, 120, 200)


def spread(plan):
    """The plan with its besides as lists, in which texts that stand together are one."""
    kind = plan[0]
    if kind in ("text", "line", "cut"):
        return [plan] if plan != ("text", "") else []
    if kind != "beside":
        return [tuple(spread(part) if isinstance(part, tuple) else part for part in plan)]
    parts = []
    for part in spread(plan[1]) + spread(plan[2]):
        if parts and parts[-1][0] == part[0] == "text":
            part = ("text", parts.pop()[1] + part[1])
        parts.append(part)
    return parts


def grouped(*parts):
    return ("choice", [("flat", list(parts))], list(parts))


def nested(*parts):
    return ("nest", 2, list(parts))


class PlanTest(unittest.TestCase):
    def check(self, tree, *wanted):
        with self.subTest(tree=tree):
            self.assertEqual(spread(plan_of(tree)), list(wanted))

    def test_names_and_numbers(self):
        self.check(("name", "abc"), text("abc"))
        self.check(("number", 0), text("0"))
        self.check(("number", 120), text("120"))
        self.assertEqual(plan_of(A), text("a"))

    def test_long_numbers(self):
        for number in (10 ** 64 - 1, 10 ** 64, 10 ** 64 + 7, 10 ** 128, 123 * 10 ** 90 + 5, 7 ** 800):
            self.assertEqual(plan_of(("number", number)), text(str(number)))
        self.assertEqual(plan_of(("number", 10 ** 5000)), text("1" + "0" * 5000))
        self.assertEqual(read(formatted(("number", 10 ** 5000 + 3), 40)), ("number", 10 ** 5000 + 3))

    def test_without_parts(self):
        self.check(("call", "fun", ()), text("fun()"))
        self.check(("row", ()), text("[]"))

    def test_with_one_part(self):
        self.check(("call", "fun", (A,)), grouped(text("fun("), nested(CUT, text("a")), CUT, text(")")))
        self.check(("row", (A,)), grouped(text("["), nested(CUT, text("a")), CUT, text("]")))

    def test_with_several_parts(self):
        inside = nested(CUT, text("a,"), LINE, text("12,"), LINE, text("b"))
        parts = (A, ("number", 12), B)
        self.check(("call", "f", parts), grouped(text("f("), inside, CUT, text(")")))
        self.check(("row", parts), grouped(text("["), inside, CUT, text("]")))

    def test_parts_with_parts(self):
        inner = grouped(text("["), nested(CUT, text("a")), CUT, text("]"))
        self.check(
            ("call", "f", (("row", (A,)), ("row", ()))),
            grouped(text("f("), nested(CUT, inner, text(","), LINE, text("[]")), CUT, text(")")),
        )

    def test_two_operands(self):
        for sign in "+-*":
            self.check((sign, A, B), grouped(text("a"), nested(LINE, text(sign + " b"))))

    def test_operands_that_join_from_the_left(self):
        self.check(
            ("+", ("-", ("+", A, B), C), A),
            grouped(text("a"), nested(LINE, text("+ b"), LINE, text("- c"), LINE, text("+ a"))),
        )
        self.check(("*", ("*", A, B), C), grouped(text("a"), nested(LINE, text("* b"), LINE, text("* c"))))

    def test_products_in_sums(self):
        product = grouped(text("a"), nested(LINE, text("* b")))
        self.check(("+", ("*", A, B), C), grouped(product, nested(LINE, text("+ c"))))
        self.check(("-", C, ("*", A, B)), grouped(text("c"), nested(LINE, text("- "), product)))
        self.check(
            ("+", ("-", ("*", A, B), ("*", A, B)), ("*", A, B)),
            grouped(product, nested(LINE, text("- "), product, LINE, text("+ "), product)),
        )

    def test_sums_in_products(self):
        aligned = ("align", [grouped(text("a"), nested(LINE, text("+ b")))])
        self.check(("*", ("+", A, B), C), grouped(text("("), aligned, text(")"), nested(LINE, text("* c"))))
        self.check(("*", C, ("+", A, B)), grouped(text("c"), nested(LINE, text("* ("), aligned, text(")"))))

    def test_right_operands_of_their_own_kind(self):
        for sign in "+-":
            for inner in "+-":
                aligned = ("align", [grouped(text("b"), nested(LINE, text(inner + " c")))])
                self.check((sign, A, (inner, B, C)), grouped(text("a"), nested(LINE, text(sign + " ("), aligned, text(")"))))
        aligned = ("align", [grouped(text("b"), nested(LINE, text("* c")))])
        self.check(("*", A, ("*", B, C)), grouped(text("a"), nested(LINE, text("* ("), aligned, text(")"))))

    def test_calls_and_rows_as_operands_have_no_brackets(self):
        call = grouped(text("f("), nested(CUT, text("a")), CUT, text(")"))
        row = grouped(text("["), nested(CUT, text("b")), CUT, text("]"))
        for sign in "+-*":
            tree = (sign, ("call", "f", (A,)), ("row", (B,)))
            self.check(tree, grouped(call, nested(LINE, text(sign + " "), row)))

    def test_sums_as_parts_have_no_brackets(self):
        inner = grouped(text("a"), nested(LINE, text("+ b")))
        self.check(("row", (("+", A, B),)), grouped(text("["), nested(CUT, inner), CUT, text("]")))

    def test_groups_are_groups(self):
        plan = plan_of(("+", A, B))
        self.assertEqual(plan, group(plan[2]))
        self.assertEqual(count(plan), 2)


class TextTest(unittest.TestCase):
    def check(self, expression, width, wanted):
        with self.subTest(expression=expression, width=width):
            tree = read(expression)
            self.assertEqual(formatted(tree, width), wanted)
            self.assertEqual(read(wanted), tree)

    def test_wide(self):
        for wanted in (
            "a", "0", "120", "f()", "[]", "f(a)", "[a]", "f(a, b, [c, 1], g())", "a + b - c", "a * b * c",
            "a * b + c * a", "(a + b) * c", "a * (b - c)", "a - (b - c)", "a + (b + c)", "a * (b * c)",
            "f(a + b) * [c - 1]", "((a + b) * c - (a - b)) * 2", "a - (b + c * (a - 1)) - 2",
        ):
            self.check(wanted, 200, wanted)

    def test_brackets_that_change_nothing_are_gone(self):
        self.check("((a))", 200, "a")
        self.check("(a*b)+(c)", 200, "a * b + c")
        self.check("(a+b)-c", 200, "a + b - c")
        self.check("(a*b)*c", 200, "a * b * c")
        self.check("(f(a))*([b])", 200, "f(a) * [b]")
        self.check("[(a+b),((c))]", 200, "[a + b, c]")

    def test_narrow(self):
        self.check("fun(a,bc,d)", 10, "fun(\n  a,\n  bc,\n  d\n)")
        self.check("fun(a,bc,d)", 13, "fun(a, bc, d)")
        self.check("fun(a,bc,d)", 12, "fun(\n  a,\n  bc,\n  d\n)")
        self.check("[ab]", 3, "[ab]")
        self.check("[abcdef]", 7, "[abcdef]")
        self.check("[[],abcdef]", 9, "[\n  [],\n  abcdef\n]")
        self.check("ab+cd-ef", 8, "ab\n  + cd\n  - ef")
        self.check("ab*cd", 6, "ab\n  * cd")

    def test_outer_breaks_ahead_of_inner_ones(self):
        self.check("f(g(a,b),c)", 10, "f(\n  g(a, b),\n  c\n)")
        self.check("f(g(a,b),c)", 9, "f(\n  g(\n    a,\n    b\n  ),\n  c\n)")
        self.check("aa*bb+cc*dd", 11, "aa * bb\n  + cc * dd")

    def test_a_break_breaks_all_groups_round_it(self):
        self.check("[aaaa,bbbb]*c", 10, "[\n  aaaa,\n  bbbb\n]\n  * c")
        self.check("[aa,bb]+[cc,dd]", 8, "[aa, bb]\n  + [\n    cc,\n    dd\n  ]")

    def test_operands_in_brackets_are_aligned(self):
        self.check("(aaa+bbb)*c", 8, "(aaa\n   + bbb)\n  * c")
        self.check("x*(f(aaa)-bbb)", 11, "x\n  * (f(aaa)\n       - bbb)")
        self.check("a*(bbbb+cccc)", 12, "a\n  * (bbbb\n       + cccc)")

    def test_width_of_0(self):
        self.check("a", 0, "a")
        self.check("a+b", 0, "a + b")
        self.check("[a,b]", 0, "[a, b]")


class ReadBackTest(unittest.TestCase):
    def test_the_very_same_at_many_widths(self):
        with short_time(120):
            for tree in many_trees(150):
                for width in WIDTHS:
                    told = formatted(tree, width)
                    self.assertEqual(read(told), tree, (tree, width))
                    self.assertEqual(formatted(read(told), width), told)

    def test_formatted_is_the_best_layout_of_the_plan(self):
        with short_time(60):
            for tree in many_trees(60):
                plan = plan_of(tree)
                for width in (0, 7, 24, 200):
                    told = choose(plan, width)
                    self.assertEqual(told, best_by_columns(plan, width))
                    self.assertEqual(formatted(tree, width), laid(plan, told[2]))
                    self.assertEqual(formatted(tree, width), printed(plan, width))

    def test_no_brackets_but_where_another_tree_would_be_read(self):
        pairs = 0
        for tree in many_trees(150):
            told = formatted(tree, 200).replace("\n", " ")
            for begin, end in self.bracket_pairs(told):
                pairs += 1
                without = told[:begin] + " " + told[begin + 1:end] + " " + told[end + 1:]
                self.assertNotEqual(self.read_or_none(without), tree, told)
        self.assertGreater(pairs, 100)

    def bracket_pairs(self, told):
        begins = []
        for place, sign in enumerate(told):
            if sign == "(":
                begins.append(place)
            elif sign == ")":
                begin = begins.pop()
                if begin == 0 or not told[begin - 1].isalpha():
                    yield begin, place

    def read_or_none(self, told):
        try:
            return read(told)
        except BadText:
            return None

    def test_twelve_within_one_another(self):
        trees = [A] * 5
        for step in range(11):
            trees = [
                ("call", "fun", (trees[0], B)), ("row", (trees[1],)), ("+", A, trees[2]), ("*", trees[3], C),
                ("*", B, ("-", A, trees[4])) if step < 5 else ("-", trees[4], A),
            ]
        with short_time():
            for tree in trees:
                for width in WIDTHS:
                    self.assertEqual(read(formatted(tree, width)), tree)

    def test_somewhat_beyond_the_bounds(self):
        tree = A
        for step in range(19):
            tree = ("row", (("+", B, ("*", tree, ("name", "c" * 50))),))
        with short_time():
            for width in (0, 40, 200, 250):
                self.assertEqual(read(formatted(tree, width)), tree)

    def test_many_operands(self):
        tree = read(" + ".join(["abc"] * 300))
        with short_time():
            self.assertEqual(formatted(tree, 40), "abc" + "\n  + abc" * 299)

    def test_the_same_each_time(self):
        tree = read("f(a, [b, c * (a - 1)], g())")
        first = [formatted(tree, width) for width in WIDTHS]
        self.assertEqual([formatted(tree, width) for width in reversed(WIDTHS)], first[::-1])
        self.assertEqual(plan_of(tree), plan_of(tree))
