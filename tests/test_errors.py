import unittest

from printwell.errors import BadBits, BadText, PrintError


class ErrorsTest(unittest.TestCase):
    def test_print_error_is_a_value_error(self):
        self.assertEqual(PrintError.__bases__, (ValueError,))

    def test_the_others_lie_below_print_error_and_not_below_another(self):
        self.assertEqual(BadBits.__bases__, (PrintError,))
        self.assertEqual(BadText.__bases__, (PrintError,))

    def test_bad_text_has_its_place_when_it_is_made(self):
        for place in (0, 7, 4000):
            self.assertEqual(BadText(place).place, place)

    def test_bad_text_keeps_its_place_when_it_is_taken(self):
        with self.assertRaises(PrintError) as taken:
            raise BadText(3)
        self.assertEqual(taken.exception.place, 3)
        self.assertIn("3", str(taken.exception))
