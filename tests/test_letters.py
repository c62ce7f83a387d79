"""Which numbers are letters."""

import unittest

from slipstell.letters import are_letters


class Letters(unittest.TestCase):
    def test_each_number_alone(self):
        for number in range(256):
            with self.subTest(number=number):
                self.assertEqual(are_letters([number]), 0x21 <= number <= 0x7E)

    def test_an_empty_row(self):
        self.assertTrue(are_letters([]))

    def test_one_number_that_is_no_letter_wherever_it_stands(self):
        for place in range(3):
            row = list(b"abc")
            row[place] = 0x20
            self.assertFalse(are_letters(row))


if __name__ == "__main__":
    unittest.main()
