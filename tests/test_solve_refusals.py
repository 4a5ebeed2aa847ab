"""What solve refuses, point by point, and which refusal comes first."""

import unittest

from tests.samples import GREATEST, NO_TEXTS, POLYNOMIALS, TOO_BIG
from tests.tools import bytes_of, solved
from slopesteps.equations import solve


class WrongCounts(unittest.TestCase):
    def test_a_kind_that_is_not_0_or_1(self):
        for kind in (2, 3, 255, 65536, GREATEST):
            self.assertEqual(solved(kind, [1], "x", "0"), [-6])
        for kind in (0, 1):
            self.assertEqual(solved(kind, [1], "x", "0"), [0, "0"])

    def test_a_size_that_is_not_1_to_4(self):
        for size in (0, 5, 6, 11, 256, 65537, GREATEST):
            for sizes in ([size], [size, 1], [1, size], [size, size]):
                for count in range(13):
                    self.assertEqual(solved(0, sizes, *["x"] * count), [-6])

    def test_sizes_that_are_not_one_or_two(self):
        for sizes in ([], [1, 1, 1], [1, 1, 1, 1], [2, 1, 1], [4, 4, 4], [4, 4, 4, 4], [0, 0, 0], [0, 0, 0, 0]):
            for kind in (0, 1):
                for count in range(13):
                    self.assertEqual(solved(kind, sizes, *["x"] * count), [-6])

    def test_another_count_of_texts(self):
        for sizes in ([1], [2], [3], [4], [1, 1], [1, 4], [4, 1], [2, 3], [4, 4]):
            for count in range(13):
                answer = solved(0, sizes, *["x"] * count)
                self.assertEqual(answer == [-6], count != sum(sizes) + len(sizes), (sizes, count))

    def test_no_texts(self):
        for sizes in ([], [1], [4], [1, 1], [4, 4], [0]):
            self.assertEqual(solve(0, sizes, []), [-6])


class NotPolynomials(unittest.TestCase):
    def test_each_by_itself_at_each_place(self):
        for text in NO_TEXTS:
            self.assertEqual(solved(0, [1], text, "0"), [-1], repr(text))
            self.assertEqual(solved(1, [1], "1", text), [-1], repr(text))
            self.assertEqual(solved(1, [1, 2], "1", "0", "1", text, "0"), [-1], repr(text))

    def test_polynomials_are_taken_and_come_back_as_they_stand(self):
        for text in POLYNOMIALS:
            for kind in (0, 1):
                self.assertEqual(solved(kind, [1], "1", text), [0, text])

    def test_every_byte_that_stands_in_no_text(self):
        for byte in range(256):
            if byte not in bytes_of("0123456789 +-*/^x"):
                for text in ([byte], [120, byte], [byte, 120], [120, 32, 43, 32, byte], [49, byte, 50]):
                    self.assertEqual(solve(0, [1], [text, [48]]), [-1])

    def test_a_single_byte(self):
        for byte in range(256):
            answer = solve(0, [1], [[49], [byte]])
            right = byte in bytes_of("0123456789x")
            self.assertEqual(answer, [0, 1, byte] if right else [-1])

    def test_long_texts(self):
        self.assertEqual(solved(0, [1], "1", "1" * 199 + "a"), [-1])
        self.assertEqual(solved(0, [1], "1", " " * 200), [-1])
        self.assertEqual(solved(0, [1], "1", "-" * 200), [-1])
        self.assertEqual(solved(0, [1], "1", "0" * 200), [-1])
        self.assertEqual(solved(0, [1], "1", "x^" + "9" * 198), [-2])
        self.assertEqual(solved(0, [1], "1", "x^" + "9" * 150 + " + x^" + "9" * 40), [-2])
        self.assertEqual(solved(0, [1], "1", "x^" + "9" * 40 + " + x^" + "9" * 150), [-1])


class TooBig(unittest.TestCase):
    def test_each_by_itself_at_each_place(self):
        for text in TOO_BIG:
            self.assertEqual(solved(0, [1], text, "0"), [-2], text)
            self.assertEqual(solved(1, [1], "1", text), [-2], text)
            self.assertEqual(solved(0, [1, 2], "1", "0", "1", text, "0"), [-2], text)

    def test_the_edges(self):
        self.assertEqual(solved(0, [1], "1", "9999"), [0, "9999"])
        self.assertEqual(solved(0, [1], "1", "10000"), [-2])
        self.assertEqual(solved(0, [1], "1", "-9999"), [0, "-9999"])
        self.assertEqual(solved(0, [1], "1", "-10000"), [-2])
        self.assertEqual(solved(0, [1], "1", "1/9999"), [0, "1/9999"])
        self.assertEqual(solved(0, [1], "1", "1/10000"), [-2])
        self.assertEqual(solved(0, [1], "1", "x^4"), [0, "x^4"])
        self.assertEqual(solved(0, [1], "1", "x^5"), [-2])


class LeftSideZero(unittest.TestCase):
    def test_all_parts_zero(self):
        for kind in (0, 1):
            for size in (1, 2, 3, 4):
                for right in ("0", "1", "x^4"):
                    self.assertEqual(solved(kind, [size], *["0"] * size, right), [-3])

    def test_in_one_of_two_equations(self):
        self.assertEqual(solved(0, [2, 1], "0", "0", "1", "x", "x"), [-3])
        self.assertEqual(solved(1, [1, 3], "x", "x", "0", "0", "0", "0"), [-3])
        self.assertEqual(solved(0, [1, 1], "0", "0", "0", "0"), [-3])

    def test_one_part_that_is_not_zero(self):
        for place in range(4):
            parts = ["0"] * 4
            parts[place] = "1"
            for kind in (0, 1):
                self.assertGreaterEqual(solved(kind, [4], *parts, "0")[0], 0)


class TheOneToldFirst(unittest.TestCase):
    def test_counts_ahead_of_all_others(self):
        self.assertEqual(solved(2, [1], "", "0"), [-6])
        self.assertEqual(solved(2, [1], "x^5", "0"), [-6])
        self.assertEqual(solved(0, [1], "", "0", "0"), [-6])
        self.assertEqual(solved(0, [0], "1*x"), [-6])
        self.assertEqual(solved(0, [5], "0", "0", "0", "0", "0", "x^5"), [-6])
        self.assertEqual(solved(0, [2], "0", "0"), [-6])

    def test_not_a_polynomial_ahead_of_too_big(self):
        self.assertEqual(solved(0, [1], "10000", "x^1"), [-1])
        self.assertEqual(solved(0, [1], "x^5", ""), [-1])
        self.assertEqual(solved(0, [1, 1], "x^5", "10000", "1/10000", "x + "), [-1])
        self.assertEqual(solved(1, [1], "x^1", "10000"), [-1])
        self.assertEqual(solved(1, [1], "20000/2", "1"), [-1])
        self.assertEqual(solved(1, [1], "x^5 + x^6", "1"), [-1])
        self.assertEqual(solved(1, [1], "1", "x^5 + 1*x"), [-1])

    def test_both_ahead_of_a_left_side_that_is_zero(self):
        self.assertEqual(solved(0, [1], "0", "-0"), [-1])
        self.assertEqual(solved(0, [1], "0", "x^5"), [-2])
        self.assertEqual(solved(0, [1, 1], "0", "0", "1", "1/10000"), [-2])

    def test_a_left_side_that_is_zero_ahead_of_too_high(self):
        self.assertEqual(solved(0, [2, 1], "-25", "x", "0", "0", "0"), [-3])
        self.assertEqual(solved(0, [1, 2], "0", "0", "-25", "x", "0"), [-3])

    def test_too_high_ahead_of_no_solution(self):
        # The root 25 is named, though nothing solves it.
        self.assertEqual(solved(0, [2], "-25", "x", "0"), [-2])
        self.assertEqual(solved(0, [2], "-25*x^2", "x^3", "1"), [-2])
        self.assertEqual(solved(0, [2], "-24*x^2", "x^3", "1"), [-5])


class NoSolution(unittest.TestCase):
    def test_none_of_one_equation(self):
        self.assertEqual(solved(0, [1], "x", "1"), [-5])
        self.assertEqual(solved(1, [1], "x", "1"), [-5])
        self.assertEqual(solved(0, [1], "x + 1", "x^2"), [-5])
        self.assertEqual(solved(0, [2], "0", "x", "1"), [-5])
        self.assertEqual(solved(0, [2], "-1", "x", "x"), [-5])
        self.assertEqual(solved(1, [2], "x", "1", "1"), [-5])

    def test_none_of_two_though_each_has_one(self):
        self.assertEqual(solved(0, [1, 1], "1", "1", "1", "2"), [-5])
        self.assertEqual(solved(0, [2, 2], "0", "1", "1", "0", "1", "2"), [-5])
        self.assertEqual(solved(1, [1, 2], "1", "x^2", "-1", "1", "2*x"), [-5])
        self.assertEqual(solved(1, [1, 2], "1", "x^2", "-1", "1", "2*x + 1"), [0, "x^2"])


if __name__ == "__main__":
    unittest.main()
