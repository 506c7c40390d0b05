"""[2.1], the cost of a text at a width."""

import unittest

from printwell.plans import cost_of


class CostTest(unittest.TestCase):
    def check(self, text, width, beyond, ends):
        with self.subTest(text=text, width=width):
            cost = cost_of(text, width)
            self.assertEqual(cost, (beyond, ends))
            self.assertIsInstance(cost, tuple)

    def test_one_row(self):
        self.check("abc", 2, 1, 0)
        self.check("abc", 3, 0, 0)
        self.check("abc", 4, 0, 0)
        self.check("x" * 250, 200, 50, 0)

    def test_rows_are_added_up(self):
        self.check("abcdef\nabc\nabcde", 4, 3, 2)
        self.check("abcdef\nabc\nabcde", 2, 8, 2)

    def test_a_short_row_makes_up_for_nothing(self):
        self.check("abcdef\na", 4, 2, 1)
        self.check("a\nabcdef\na", 4, 2, 2)

    def test_empty_text_and_empty_rows(self):
        self.check("", 0, 0, 0)
        self.check("", 10, 0, 0)
        self.check("\n", 0, 0, 1)
        self.check("\n\n\n", 5, 0, 3)
        self.check("ab\n\ncd", 1, 2, 2)

    def test_width_of_0(self):
        self.check("abc", 0, 3, 0)
        self.check("abc\nde", 0, 5, 1)

    def test_blanks_count(self):
        self.check("ab   ", 3, 2, 0)
        self.check("     ", 2, 3, 0)
        self.check("a\n    \nb", 1, 3, 2)
        self.check("    a", 4, 1, 0)

    def test_line_ends(self):
        self.check("ab\ncd", 9, 0, 1)
        self.check("ab\n", 9, 0, 1)
        self.check("ab\n", 1, 1, 1)
        self.check("\nab", 1, 1, 1)
        self.check("a\nb\nc\n\n", 9, 0, 4)

    def test_a_line_end_is_no_sign_of_its_row(self):
        self.check("abc\nabc", 3, 0, 1)
