"""What left refuses, points 1 and 2, and which refusal comes first."""

import unittest

from tests.samples import GREATEST, NO_TEXTS, POLYNOMIALS, TOO_BIG
from tests.tools import bytes_of, lefted
from slopesteps.equations import left


def at_each_place(text):
    """The text as y and as each of the others, with one to four others; the rest are polynomials."""
    for count in range(2, 6):
        for place in range(count):
            texts = ["x"] * count
            texts[place] = text
            yield texts


class WrongCounts(unittest.TestCase):
    def test_a_kind_that_is_not_0_or_1(self):
        for kind in (2, 3, 4, 255, 256, 65536, 2 ** 31, 2 ** 32 - 2, GREATEST):
            for count in range(9):
                self.assertEqual(lefted(kind, *["x"] * count), [-6])
        for kind in (0, 1):
            self.assertEqual(lefted(kind, "x", "1"), [1, "x"])

    def test_another_count_of_texts(self):
        for kind in (0, 1):
            for text in ("x", "0", "1"):
                for count in range(9):
                    answer = lefted(kind, *[text] * count)
                    self.assertEqual(answer == [-6], count not in (2, 3, 4, 5), (kind, text, count))

    def test_no_texts(self):
        for kind in (0, 1, 2, GREATEST):
            self.assertEqual(left(kind, []), [-6])

    def test_y_alone(self):
        for text in ("0", "1", "x", "x^4"):
            for kind in (0, 1):
                self.assertEqual(lefted(kind, text), [-6])


class NotPolynomials(unittest.TestCase):
    def test_each_by_itself_at_each_place(self):
        for text in NO_TEXTS:
            for texts in at_each_place(text):
                for kind in (0, 1):
                    self.assertEqual(lefted(kind, *texts), [-1], texts)

    def test_also_where_it_would_not_count(self):
        # The other side of each product is 0, and so are the slopes.
        self.assertEqual(lefted(0, "0", "x^1"), [-1])
        self.assertEqual(lefted(0, "1*x", "0"), [-1])
        self.assertEqual(lefted(0, "1", "1", "1", "1", "x^0"), [-1])

    def test_polynomials_are_taken_and_come_back_as_they_stand(self):
        for text in POLYNOMIALS:
            for kind in (0, 1):
                self.assertEqual(lefted(kind, text, "1"), [1, text])
                self.assertEqual(lefted(kind, "1", text), [1, text])

    def test_every_byte_that_stands_in_no_text(self):
        for byte in range(256):
            if byte not in bytes_of("0123456789 +-*/^x"):
                for text in ([byte], [120, byte], [byte, 120], [120, 32, 43, 32, byte], [49, byte, 50]):
                    self.assertEqual(left(0, [text, [49]]), [-1])
                    self.assertEqual(left(1, [[49], text]), [-1])

    def test_a_single_byte(self):
        for byte in range(256):
            right = byte in bytes_of("0123456789x")
            self.assertEqual(left(0, [[byte], [49]]), [1, 1, byte] if right else [-1])
            self.assertEqual(left(1, [[49], [byte]]), [1, 1, byte] if right else [-1])

    def test_long_texts(self):
        for text in ("1" * 199 + "a", " " * 200, "-" * 200, "0" * 200, "x^" + "9" * 40 + " + x^" + "9" * 150):
            self.assertEqual(lefted(0, text, "1"), [-1])
            self.assertEqual(lefted(1, "1", text), [-1])
        for text in ("x^" + "9" * 198, "9" * 200, "x^" + "9" * 150 + " + x^" + "9" * 40):
            self.assertEqual(lefted(0, text, "1"), [-2])
            self.assertEqual(lefted(1, "1", text), [-2])


class TooBig(unittest.TestCase):
    def test_each_by_itself_at_each_place(self):
        for text in TOO_BIG:
            for texts in at_each_place(text):
                for kind in (0, 1):
                    self.assertEqual(lefted(kind, *texts), [-2], texts)

    def test_also_where_it_would_not_count(self):
        self.assertEqual(lefted(0, "0", "x^5"), [-2])
        self.assertEqual(lefted(0, "10000", "0"), [-2])
        self.assertEqual(lefted(0, "1", "1", "1", "1", "1/10000"), [-2])

    def test_the_edges(self):
        for kind in (0, 1):
            for small, big in (
                ("x^4", "x^5"), ("-x^4 + 1", "-x^5 + 1"),
                ("9999", "10000"), ("-9999", "-10000"), ("9999*x^2", "10000*x^2"), ("x - 9999", "x - 10000"),
                ("1/9999", "1/10000"), ("-1/9999*x", "-1/10000*x"), ("x + 1/9999", "x + 1/10000"),
                ("9999/2", "10001/2"), ("2/9999", "3/10000"),
            ):
                self.assertEqual(lefted(kind, small, "1"), [1, small])
                self.assertEqual(lefted(kind, big, "1"), [-2])
                self.assertEqual(lefted(kind, "1", small), [1, small])
                self.assertEqual(lefted(kind, "1", big), [-2])
                self.assertEqual(lefted(kind, "1", "0", "0", "0", big), [-2])

    def test_the_left_side_itself_may_be_bigger(self):
        for kind in (0, 1):
            self.assertEqual(lefted(kind, "9999*x^4", "9999*x^4"), [1, "99980001*x^8"])
            self.assertEqual(lefted(kind, "-1/9999", "1/9999"), [1, "-1/99980001"])


class TheOneToldFirst(unittest.TestCase):
    def test_counts_ahead_of_what_the_texts_are(self):
        for text in ("", "x^1", "2/4", "x^5", "10000", "1/10000"):
            for count in (1, 6, 7, 8):
                for kind in (0, 1):
                    for place in range(count):
                        texts = ["x"] * count
                        texts[place] = text
                        self.assertEqual(lefted(kind, *texts), [-6], texts)
            for texts in at_each_place(text):
                for kind in (2, GREATEST):
                    self.assertEqual(lefted(kind, *texts), [-6], texts)

    def test_not_a_polynomial_ahead_of_too_big(self):
        for kind in (0, 1):
            for big in ("x^5", "10000", "1/10000"):
                for wrong in ("", "x^1", "2/4", "x + ", "-0"):
                    self.assertEqual(lefted(kind, big, wrong), [-1])
                    self.assertEqual(lefted(kind, wrong, big), [-1])
                    for place in range(1, 5):
                        texts = [big] * 5
                        texts[place] = wrong
                        self.assertEqual(lefted(kind, *texts), [-1], texts)

    def test_both_in_one_text(self):
        for text in ("20000/2", "x^5 + x^6", "x^5 + 1*x", "10000/10000", "x^05", "010000", "x^5 ", "10000*x^1"):
            self.assertEqual(lefted(0, text, "1"), [-1], text)
            self.assertEqual(lefted(1, "1", text), [-1], text)


if __name__ == "__main__":
    unittest.main()
