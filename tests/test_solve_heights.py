"""Point 3: how high a solution may be."""

import random
import unittest

from tests.tools import equations_of, expected, height_of, solved, text_of
from slopesteps.heights import greatest_whole_root, how_high


class TheEdge(unittest.TestCase):
    def test_a_root_of_24_and_25(self):
        self.assertEqual(solved(0, [2], "-24", "x", "0"), [1, "0", "x^24"])
        self.assertEqual(solved(0, [2], "-25", "x", "0"), [-2])
        self.assertEqual(solved(0, [2], "-24*x^3", "x^4", "0"), [1, "0", "x^24"])
        self.assertEqual(solved(0, [2], "-25*x^3", "x^4", "0"), [-2])
        self.assertEqual(solved(0, [2], "-8", "1/3*x", "0"), [1, "0", "x^24"])
        self.assertEqual(solved(0, [2], "-25/3", "1/3*x", "0"), [-2])

    def test_of_kind_1(self):
        answer = solved(1, [2], "-x - 24", "x", "0")
        self.assertEqual(answer[0], 1)
        self.assertTrue(answer[2].startswith("x^24 + 276*x^23 + "))
        self.assertEqual(solved(1, [2], "-x - 25", "x", "0"), [-2])

    def test_a_root_of_25_below_a_root_that_is_not_whole(self):
        # (n - 25)(2n - 61) = 2n(n - 1) - 109n + 1525
        self.assertEqual(solved(0, [3], "1525", "-109*x", "2*x^2", "0"), [-2])
        # (n - 24)(2n - 61) = 2n(n - 1) - 107n + 1464
        self.assertEqual(solved(0, [3], "1464", "-107*x", "2*x^2", "0"), [1, "0", "x^24"])

    def test_the_greatest_of_several_roots(self):
        # (n - 3)(n - 25) and (n - 3)(n - 24)
        self.assertEqual(solved(0, [3], "75", "-27*x", "x^2", "0"), [-2])
        self.assertEqual(solved(0, [3], "72", "-26*x", "x^2", "0"), [2, "0", "x^3", "x^24"])

    def test_very_great_roots(self):
        for text in ("-25", "-26", "-100", "-9999"):
            self.assertEqual(solved(0, [2], text, "x", "0"), [-2])
        self.assertEqual(solved(0, [2], "-9999", "1/9999*x", "0"), [-2])
        self.assertEqual(solved(0, [2], "-9999", "1/9998*x", "1"), [-2])
        self.assertEqual(solved(1, [2], "-x - 9999", "x", "0"), [-2])

    def test_roots_that_do_not_count(self):
        self.assertEqual(solved(0, [2], "1", "x", "0"), [0, "0"])
        self.assertEqual(solved(0, [2], "30", "x", "0"), [0, "0"])
        self.assertEqual(solved(0, [2], "-1/2", "x", "0"), [0, "0"])
        self.assertEqual(solved(0, [2], "-51", "2*x", "0"), [0, "0"])
        self.assertEqual(solved(0, [2], "-9998/3", "x", "0"), [0, "0"])
        self.assertEqual(solved(0, [3], "9999", "x", "x^2", "0"), [0, "0"])
        self.assertEqual(solved(0, [3], "9999", "x", "x^2", "9999"), [0, "1"])


class TheDegreeOfF(unittest.TestCase):
    def test_f_above_a_root(self):
        self.assertEqual(solved(0, [4], "0", "0", "0", "1", "x^4"), [3, "1/210*x^7", "1", "x", "x^2"])
        self.assertEqual(solved(0, [3], "0", "-3", "x", "5*x^4"), [2, "x^5", "1", "x^4"])

    def test_f_less_b_below_0(self):
        self.assertEqual(solved(0, [1], "x^3", "x^2"), [-5])
        self.assertEqual(solved(1, [1], "x^3", "x^2"), [-5])
        self.assertEqual(solved(0, [1], "x^3", "x^3"), [0, "1"])
        self.assertEqual(solved(0, [1], "x^3", "0"), [0, "0"])

    def test_f_0_does_not_name_a_height(self):
        # b is -3 and the roots are 0, 1 and 2; a degree of 0 less b would be 3.
        self.assertEqual(how_high(0, [[], [], [], [1]], []), 2)
        self.assertEqual(how_high(0, [[], [], [], [1]], [1]), 3)
        self.assertEqual(how_high(1, [[-1], [3], [-3], [1]], []), 2)
        self.assertEqual(how_high(1, [[-1], [3], [-3], [1]], [7]), 3)


class ByDifferences(unittest.TestCase):
    def test_highest_powers_that_fall_away(self):
        self.assertEqual(how_high(1, [[-1], [1]], []), 0)
        self.assertEqual(how_high(1, [[-1], [1]], [0, 0, 1]), 3)
        self.assertEqual(how_high(1, [[1], [-2], [1]], []), 1)
        self.assertEqual(how_high(1, [[0, 0, 1], [0, 0, -1]], []), 0)
        self.assertEqual(how_high(1, [[-5, -1], [0, 1]], []), 5)

    def test_the_same_parts_of_kind_0(self):
        self.assertEqual(how_high(0, [[-1], [1]], []), -1)
        self.assertEqual(how_high(0, [[-5, -1], [0, 1]], []), -1)

    def test_steps_of_two_and_three(self):
        # y(x + 2) - y(x) and y(x + 3) - y(x) are 2 and 3 times Dy, and more.
        self.assertEqual(solved(1, [3], "-1", "0", "1", "4*x"), [1, "x^2 - 2*x", "1"])
        self.assertEqual(solved(1, [4], "-1", "0", "0", "1", "6*x"), [1, "x^2 - 3*x", "1"])
        self.assertEqual(solved(1, [3], "-x - 4", "0", "x", "0"), [1, "0", "x^2 + 2*x"])
        self.assertEqual(solved(1, [3], "-x - 5", "0", "x", "0"), [0, "0"])
        self.assertEqual(solved(1, [3], "-x - 48", "0", "x", "0")[0], 1)
        self.assertEqual(solved(1, [3], "-x - 50", "0", "x", "0"), [-2])


class TwoEquations(unittest.TestCase):
    HIGH = ["-30", "x", "0"]
    LOW = ["-3", "x", "0"]
    NONE = ["1", "x", "0"]

    def test_both_have_a_height(self):
        self.assertEqual(solved(0, [2, 2], *self.HIGH, *self.HIGH), [-2])
        self.assertEqual(solved(0, [2, 2], *self.HIGH, "-25", "x", "0"), [-2])
        self.assertEqual(solved(0, [2, 2], *self.HIGH, *self.LOW), [0, "0"])
        self.assertEqual(solved(0, [2, 2], *self.LOW, *self.HIGH), [0, "0"])
        self.assertEqual(solved(0, [2, 2], *self.LOW, *self.LOW), [1, "0", "x^3"])
        self.assertEqual(solved(0, [2, 2], *self.HIGH, "-24", "x", "0"), [0, "0"])

    def test_one_has_none(self):
        self.assertEqual(solved(0, [2, 2], *self.HIGH, *self.NONE), [0, "0"])
        self.assertEqual(solved(0, [2, 2], *self.NONE, *self.HIGH), [0, "0"])
        self.assertEqual(solved(0, [2, 2], *self.NONE, *self.LOW), [0, "0"])
        self.assertEqual(solved(0, [2, 2], "-30", "x", "1", *self.NONE), [-5])
        self.assertEqual(solved(0, [2, 1], *self.HIGH, "x", "1"), [-5])
        self.assertEqual(solved(0, [1, 2], "x", "1", *self.HIGH), [-5])

    def test_none_has_any(self):
        self.assertEqual(solved(0, [2, 2], *self.NONE, *self.NONE), [0, "0"])
        self.assertEqual(solved(0, [2, 1], *self.NONE, "x", "1"), [-5])
        self.assertEqual(solved(0, [1, 1], "x", "1", "x^2", "x"), [-5])


class WholeRoots(unittest.TestCase):
    def test_products_of_roots(self):
        generator = random.Random(31)
        for turn in range(300):
            choices = [-3, -1, 0, 1, 2, 24, 25, 10 ** 6, 10 ** 30]
            roots = [generator.choice(choices) for k in range(generator.randint(0, 3))]
            numbers = [generator.choice([1, -1, 7, 10 ** 20])]
            for root in roots:
                numbers = [a - root * b for a, b in zip([0] + numbers, numbers + [0])]
            self.assertEqual(greatest_whole_root(numbers), max([root for root in roots if root >= 0], default=-1))

    def test_roots_that_are_not_whole(self):
        generator = random.Random(32)
        for turn in range(500):
            numbers = [generator.randint(-40, 40) for k in range(generator.randint(1, 4))]
            if numbers[-1] == 0:
                continue
            roots = [n for n in range(42) if sum(number * n ** k for k, number in enumerate(numbers)) == 0]
            self.assertEqual(greatest_whole_root(numbers), max(roots, default=-1), numbers)

    def test_roots_close_to_one_another(self):
        self.assertEqual(greatest_whole_root([0, -1, 1]), 1)
        self.assertEqual(greatest_whole_root([0, 2, -3, 1]), 2)
        self.assertEqual(greatest_whole_root([4, -4, 1]), 2)
        self.assertEqual(greatest_whole_root([10 ** 40, -2 * 10 ** 20, 1]), 10 ** 20)
        self.assertEqual(greatest_whole_root([10 ** 40 + 1, -2 * 10 ** 20, 1]), -1)


class AgainstASlowerWay(unittest.TestCase):
    def test_how_high(self):
        generator = random.Random(33)
        seen = {}
        for turn in range(700):
            kind = generator.randint(0, 1)
            size = generator.randint(1, 4)
            parts = [some_polynomial(generator) for k in range(size)]
            right = some_polynomial(generator)
            sizes = [size]
            texts = [text_of(numbers) for numbers in parts + [right]]
            if all(not numbers for numbers in parts):
                self.assertEqual(solved(kind, sizes, *texts), [-3])
                continue
            high = height_of(kind, *equations_of(sizes, texts)[0], 700)
            seen[high] = True
            if high is not None and high > 24:
                wanted = [-2]
            else:
                wanted = expected(kind, sizes, texts, 9 if high is None else high)
            self.assertEqual(solved(kind, sizes, *texts), wanted, (kind, texts))
        self.assertIn(None, seen)
        self.assertTrue(any(high is not None and high > 24 for high in seen))


def some_polynomial(generator):
    numbers = [generator.choice([0, 0, 1, -1, 2, -3, 6, -12, 30, -60]) for k in range(generator.randint(0, 4))]
    while numbers and numbers[-1] == 0:
        numbers.pop()
    return numbers


if __name__ == "__main__":
    unittest.main()
