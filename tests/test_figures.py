"""How numbers are written in rows: [23]."""

import unittest

from skiphall.figures import is_count_text, is_number_text


class FiguresTest(unittest.TestCase):
    def test_each_sign(self):
        for code in range(32, 127):
            sign = chr(code)
            with self.subTest(sign):
                self.assertIs(is_count_text(sign, 12), sign in "0123456789")
                self.assertIs(is_count_text("1" + sign, 12), sign in "0123456789")
                self.assertIs(is_count_text(sign + "1", 12), sign in "123456789")
                self.assertIs(is_number_text(sign), sign in "0123456789")
                self.assertIs(is_number_text(sign + "1"), sign in "-123456789")
                self.assertIs(is_number_text("-" + sign), sign in "123456789")

    def test_each_length(self):
        for many in range(0, 20):
            with self.subTest(many):
                self.assertIs(is_count_text("1" * many, 6), 1 <= many <= 6)
                self.assertIs(is_count_text("1" * many, 12), 1 <= many <= 12)
                self.assertIs(is_number_text("9" * many), 1 <= many <= 12)
                self.assertIs(is_number_text("-" + "9" * many), 1 <= many <= 12)
                self.assertIs(is_number_text("0" * many), many == 1)
                self.assertIs(is_number_text("-" + "0" * many), False)


if __name__ == "__main__":
    unittest.main()
