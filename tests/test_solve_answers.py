"""What solve answers: all solutions and no others, in the order and form that is asked."""

import copy
import random
import re
import unittest
from fractions import Fraction

from tests.tools import added, bytes_of, equation_for, equations_of, expected, left_of, multiplied, numbers_of, solved
from tests.tools import some_numbers, taken, text_of
from slopesteps.equations import solve


class Answers(unittest.TestCase):
    def check_answer(self, kind, sizes, texts):
        """Whether what is told solves the equations and has the form that is asked; gives the answer."""
        answer = solved(kind, sizes, *texts)
        if answer[0] < 0:
            return answer
        self.assertEqual(len(answer), answer[0] + 2)
        told = [numbers_of(text) for text in answer[1:]]
        self.assertEqual([text_of(numbers) for numbers in told], answer[1:])
        for parts, right in equations_of(sizes, texts):
            self.assertEqual(left_of(kind, parts, told[0]), right)
            for other in told[1:]:
                self.assertEqual(left_of(kind, parts, other), [])
        degrees = [len(other) - 1 for other in told[1:]]
        self.assertEqual(degrees, sorted(set(degrees)))
        for degree, other in zip(degrees, told[1:]):
            self.assertEqual(other[degree], 1)
            for numbers in told:
                if numbers is not other and degree < len(numbers):
                    self.assertEqual(numbers[degree], 0)
        return answer


class ByHand(Answers):
    def test_the_examples_of_the_document(self):
        self.assertEqual(solved(0, [3], "2", "-x - 2", "x", "0"), [1, "0", "x^2 + 2*x + 2"])
        self.assertEqual(solved(1, [2], "-1", "1", "x^2"), [1, "1/3*x^3 - 1/2*x^2 + 1/6*x", "1"])

    def test_the_answer_as_whole_numbers(self):
        texts = [bytes_of(text) for text in ("-1", "1", "x^2")]
        y0 = bytes_of("1/3*x^3 - 1/2*x^2 + 1/6*x")
        self.assertEqual(solve(1, [2], texts), [1, len(y0)] + y0 + [1, 49])
        self.assertEqual(solve(0, [1], [[49], [48]]), [0, 1, 48])

    def test_size_1(self):
        for kind in (0, 1):
            self.assertEqual(solved(kind, [1], "1", "3/2*x^2 - x + 1"), [0, "3/2*x^2 - x + 1"])
            self.assertEqual(solved(kind, [1], "x + 1", "x^2 - 1"), [0, "x - 1"])
            self.assertEqual(solved(kind, [1], "2/3", "x^4"), [0, "3/2*x^4"])
            self.assertEqual(solved(kind, [1], "-7*x^4", "0"), [0, "0"])

    def test_size_2(self):
        self.assertEqual(solved(0, [2], "0", "1", "0"), [1, "0", "1"])
        self.assertEqual(solved(0, [2], "0", "1", "x^4"), [1, "1/5*x^5", "1"])
        self.assertEqual(solved(0, [2], "1", "1", "x^2"), [0, "x^2 - 2*x + 2"])
        self.assertEqual(solved(0, [2], "-2", "x", "4"), [1, "-2", "x^2"])
        self.assertEqual(solved(1, [2], "-1", "1", "x^4"), [1, "1/5*x^5 - 1/2*x^4 + 1/3*x^3 - 1/30*x", "1"])
        self.assertEqual(solved(1, [2], "1", "1", "x"), [0, "1/2*x - 1/4"])
        self.assertEqual(solved(1, [2], "-x - 2", "x", "0"), [1, "0", "x^2 + x"])

    def test_sizes_3_and_4(self):
        self.assertEqual(solved(0, [3], "0", "0", "1", "6*x"), [2, "x^3", "1", "x"])
        self.assertEqual(solved(0, [4], "0", "0", "0", "1", "0"), [3, "0", "1", "x", "x^2"])
        self.assertEqual(solved(0, [3], "6", "-2*x", "-x^2 + 1", "0"), [1, "0", "x^2 - 1/3"])
        self.assertEqual(solved(0, [3], "12", "-2*x", "-x^2 + 1", "0"), [1, "0", "x^3 - 3/5*x"])
        self.assertEqual(solved(1, [3], "1", "-2", "1", "2"), [2, "x^2", "1", "x"])
        self.assertEqual(solved(1, [4], "-1", "3", "-3", "1", "x"), [3, "1/24*x^4 - 1/4*x^3", "1", "x", "x^2"])
        self.assertEqual(solved(1, [4], "0", "0", "0", "1", "x^2"), [0, "x^2 - 6*x + 9"])

    def test_y0_beside_others_has_nothing_at_their_highest_powers(self):
        # Without that rule y0 might be x^2 + 5*x - 3 as well.
        self.assertEqual(solved(0, [3], "0", "0", "1", "2"), [2, "x^2", "1", "x"])
        # x^2 + 2*x + 2 is the other one; y0 is lower, and keeps its x.
        self.assertEqual(solved(0, [3], "2", "-x - 2", "x", "x - 2"), [1, "x", "x^2 + 2*x + 2"])
        # Here y0 is higher.
        self.assertEqual(solved(0, [3], "2", "-x - 2", "x", "-x^3"), [1, "x^3", "x^2 + 2*x + 2"])

    def test_two_equations(self):
        self.assertEqual(solved(0, [2, 3], "0", "1", "2*x", "0", "0", "1", "2"), [1, "x^2", "1"])
        self.assertEqual(solved(0, [3, 4], "0", "0", "1", "0", "0", "0", "0", "1", "0"), [2, "0", "1", "x"])
        self.assertEqual(solved(0, [2, 2], "-2", "x", "0", "2*x", "-x^2", "0"), [1, "0", "x^2"])
        self.assertEqual(solved(1, [2, 1], "-1", "1", "1", "x", "x^2 + 5*x"), [0, "x + 5"])
        self.assertEqual(solved(1, [3, 2], "1", "-2", "1", "0", "-x - 1", "x", "0"), [1, "0", "x"])
        self.assertEqual(solved(1, [1, 4], "1/2", "x", "0", "0", "0", "1", "2*x + 6"), [0, "2*x"])

    def test_the_kind_decides(self):
        self.assertEqual(solved(0, [2], "-1", "1", "x"), [0, "-x - 1"])
        self.assertEqual(solved(1, [2], "-1", "1", "x"), [1, "1/2*x^2 - 1/2*x", "1"])

    def test_numbers_with_many_digits(self):
        texts = ["1/9973", "9967", "9949/9941*x", "x^4"]
        answer = self.check_answer(0, [3], texts)
        self.assertEqual(answer, expected(0, [3], texts, 4))
        self.assertGreater(max(len(digits) for digits in re.findall("[0-9]+", answer[1])), 15)

    def test_numbers_with_hundreds_of_digits(self):
        texts = ["-24", "x + 9973/9967", "1/9949*x + 9941/9931", "x^4"]
        answer = self.check_answer(0, [3], texts)
        self.assertEqual(answer[0], 1)
        self.assertGreater(max(len(digits) for digits in re.findall("[0-9]+", answer[2])), 100)
        self.assertEqual(answer, expected(0, [3], texts, 24))

    def test_polynomials_of_orthogonal_kinds_up_to_24(self):
        for n in range(25):
            for texts in ([str(2 * n), "-2*x", "1", "0"], [str(n * n), "-x", "-x^2 + 1", "0"]):
                answer = self.check_answer(0, [3], texts)
                self.assertEqual(answer[0], 1, texts)
                self.assertEqual(len(numbers_of(answer[2])) - 1, n)


class PutIn(Answers):
    """Equations made from a solution, so that there are some; f 0 and not 0, one and two, both kinds, all sizes."""

    def test_one_equation(self):
        generator = random.Random(11)
        seen = {}
        for turn in range(700):
            kind = turn % 2
            y = [] if turn % 5 == 0 else some_numbers(generator, 4)
            parts, right = equation_for(generator, kind, y)
            texts = [text_of(numbers) for numbers in parts + [right]]
            if not taken(parts + [right]):
                continue
            answer = self.check_answer(kind, [len(parts)], texts)
            if answer != [-2]:
                self.assertGreaterEqual(answer[0], 0, (kind, texts))
                self.assertEqual(answer, expected(kind, [len(parts)], texts, 13), (kind, texts))
                self.assert_within(y, answer)
                seen[(kind, len(parts), right == [])] = True
                seen[(kind, answer[0])] = True
        for kind in (0, 1):
            for size in (1, 2, 3, 4):
                self.assertIn((kind, size, True), seen)
                self.assertIn((kind, size, False), seen)
            for count in (0, 1, 2):
                self.assertIn((kind, count), seen)

    def test_two_equations(self):
        generator = random.Random(12)
        seen = {}
        for turn in range(700):
            kind = turn % 2
            y = [] if turn % 5 == 0 else some_numbers(generator, 3)
            first, f = equation_for(generator, kind, y)
            second, g = equation_for(generator, kind, y)
            if turn % 3 == 0:
                # The first one once more, both sides times x - 1: it has the same solutions.
                second = [multiplied(part, [Fraction(-1), Fraction(1)]) for part in first]
                g = multiplied(f, [Fraction(-1), Fraction(1)])
            if not taken(first + second + [f, g]):
                continue
            texts = [text_of(numbers) for numbers in first + [f] + second + [g]]
            sizes = [len(first), len(second)]
            answer = self.check_answer(kind, sizes, texts)
            if answer != [-2]:
                self.assertGreaterEqual(answer[0], 0, (kind, texts))
                self.assertEqual(answer, expected(kind, sizes, texts, 13), (kind, texts))
                self.assert_within(y, answer)
                seen[(kind, answer[0])] = True
        for kind in (0, 1):
            for count in (0, 1, 2):
                self.assertIn((kind, count), seen)

    def assert_within(self, y, answer):
        told = [numbers_of(text) for text in answer[1:]]
        rest = added(y, multiplied([Fraction(-1)], told[0]))
        for other in told[1:]:
            share = rest[len(other) - 1] if len(other) <= len(rest) else 0
            rest = added(rest, multiplied([-Fraction(share)], other))
        self.assertEqual(rest, [])


class NothingIsChangedOrKept(unittest.TestCase):
    CALLS = (
        (0, [3], ["2", "-x - 2", "x", "0"]),
        (1, [2], ["-1", "1", "x^2"]),
        (1, [2, 1], ["-1", "1", "1", "x", "x^2 + 5*x"]),
        (0, [2], ["-25", "x", "0"]),
        (0, [1], ["x", "1"]),
        (0, [1], ["x^1", "1"]),
        (0, [1], ["x^5", "1"]),
        (0, [1], ["0", "1"]),
        (2, [1], ["0", "1"]),
        (0, [], []),
    )

    def test_what_is_handed_in_stays_and_answers_repeat(self):
        firsts = []
        for turn in range(2):
            for place, (kind, sizes, texts) in enumerate(self.CALLS):
                handed = [sizes[:], [bytes_of(text) for text in texts]]
                before = copy.deepcopy(handed)
                answer = solve(kind, handed[0], handed[1])
                self.assertEqual(handed, before)
                self.assertEqual(solve(kind, handed[0], handed[1]), answer)
                if turn == 0:
                    firsts.append(answer)
                self.assertEqual(firsts[place], answer)

    def test_an_answer_is_a_list_of_its_own(self):
        texts = [bytes_of("1"), bytes_of("x")]
        answer = solve(0, [1], texts)
        answer.append(7)
        self.assertEqual(solve(0, [1], texts), [0, 1, 120])
        same = bytes_of("1")
        self.assertEqual(solve(0, [1], [same, same]), [0, 1, 49])


if __name__ == "__main__":
    unittest.main()
