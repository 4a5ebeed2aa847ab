"""What left answers: the left side of an equation, as a polynomial's text."""

import copy
import random
import re
import unittest
from fractions import Fraction

from tests.samples import PRIMES
from tests.tools import added, bytes_of, equation_for, left_of, lefted, multiplied, numbers_of, solved, some_numbers
from tests.tools import taken, text_of, value
from slopesteps.equations import left, solve


class ByHand(unittest.TestCase):
    def test_the_examples_of_the_document(self):
        self.assertEqual(lefted(0, "x + 2", "2", "-x - 2", "x"), [1, "x + 2"])
        self.assertEqual(lefted(1, "x^2", "-1", "1"), [1, "2*x + 1"])

    def test_the_answer_as_whole_numbers(self):
        texts = [bytes_of(text) for text in ("x^2", "-1", "1")]
        self.assertEqual(left(1, texts), [1, 7] + bytes_of("2*x + 1"))
        self.assertEqual(left(0, [[48], [49]]), [1, 1, 48])
        self.assertEqual(left(0, [[120], [45, 49]]), [1, 2, 45, 120])

    def test_one_polynomial(self):
        for kind in (0, 1):
            self.assertEqual(lefted(kind, "x + 1", "x - 1"), [1, "x^2 - 1"])
            self.assertEqual(lefted(kind, "7", "x"), [1, "7*x"])
            self.assertEqual(lefted(kind, "x^4", "x^4"), [1, "x^8"])
            self.assertEqual(lefted(kind, "2/3*x", "3/2"), [1, "x"])
            self.assertEqual(lefted(kind, "-1/2", "1/2*x^3 - 4"), [1, "-1/4*x^3 + 2"])

    def test_slopes(self):
        self.assertEqual(lefted(0, "x^4", "0", "1"), [1, "4*x^3"])
        self.assertEqual(lefted(0, "x^4", "0", "0", "1"), [1, "12*x^2"])
        self.assertEqual(lefted(0, "x^4", "0", "0", "0", "1"), [1, "24*x"])
        self.assertEqual(lefted(0, "x^4", "1", "1", "1", "1"), [1, "x^4 + 4*x^3 + 12*x^2 + 24*x"])
        self.assertEqual(lefted(0, "x^3 - 5", "0", "0", "x^2", "-x"), [1, "6*x^3 - 6*x"])
        self.assertEqual(lefted(0, "1/2*x^2 + 3*x - 7", "0", "1"), [1, "x + 3"])

    def test_fewer_slopes_than_polynomials(self):
        self.assertEqual(lefted(0, "3", "x", "1", "1", "1"), [1, "3*x"])
        self.assertEqual(lefted(0, "3", "0", "1", "1", "1"), [1, "0"])
        self.assertEqual(lefted(0, "x", "1", "x^2", "x^3", "x^4"), [1, "x^2 + x"])
        self.assertEqual(lefted(0, "x^2", "1", "x", "x^2", "x^4"), [1, "5*x^2"])
        self.assertEqual(lefted(0, "x", "0", "0", "9999*x^4"), [1, "0"])
        self.assertEqual(lefted(0, "x^2", "0", "0", "0", "x"), [1, "0"])

    def test_steps(self):
        self.assertEqual(lefted(1, "x", "0", "1"), [1, "x + 1"])
        self.assertEqual(lefted(1, "x", "0", "0", "1"), [1, "x + 2"])
        self.assertEqual(lefted(1, "x", "0", "0", "0", "1"), [1, "x + 3"])
        self.assertEqual(lefted(1, "x^2", "0", "0", "0", "1"), [1, "x^2 + 6*x + 9"])
        self.assertEqual(lefted(1, "x^4", "0", "1"), [1, "x^4 + 4*x^3 + 6*x^2 + 4*x + 1"])
        self.assertEqual(lefted(1, "x^4", "0", "0", "1"), [1, "x^4 + 8*x^3 + 24*x^2 + 32*x + 16"])
        self.assertEqual(lefted(1, "x^4", "0", "0", "0", "1"), [1, "x^4 + 12*x^3 + 54*x^2 + 108*x + 81"])
        self.assertEqual(lefted(1, "x", "1", "1", "1", "1"), [1, "4*x + 6"])
        self.assertEqual(lefted(1, "1/2*x^2 - x", "x", "1/3"), [1, "1/2*x^3 - 5/6*x^2 - 1/6"])

    def test_a_step_moves_y_alone(self):
        self.assertEqual(lefted(1, "1", "0", "x"), [1, "x"])
        self.assertEqual(lefted(1, "x", "0", "x"), [1, "x^2 + x"])
        self.assertEqual(lefted(1, "5", "1", "x", "x^2", "x^3"), [1, "5*x^3 + 5*x^2 + 5*x + 5"])

    def test_the_kind_decides(self):
        self.assertEqual(lefted(0, "x^2", "-1", "1"), [1, "-x^2 + 2*x"])
        self.assertEqual(lefted(1, "x^2", "-1", "1"), [1, "2*x + 1"])
        self.assertEqual(lefted(0, "4", "-1", "1"), [1, "-4"])
        self.assertEqual(lefted(1, "4", "-1", "1"), [1, "0"])

    def test_y_that_is_0(self):
        for kind in (0, 1):
            for size in (1, 2, 3, 4):
                self.assertEqual(lefted(kind, "0", *["x^4 - 1/7"] * size), [1, "0"])

    def test_all_polynomials_0(self):
        for kind in (0, 1):
            for y in ("0", "1", "-1/2", "x", "x^4 - x", "9999*x^4"):
                for size in (1, 2, 3, 4):
                    self.assertEqual(lefted(kind, y, *["0"] * size), [1, "0"])

    def test_one_of_them_0(self):
        self.assertEqual(lefted(0, "x^2", "0", "x", "1"), [1, "2*x^2 + 2"])
        self.assertEqual(lefted(0, "x^2", "1", "0", "1"), [1, "x^2 + 2"])
        self.assertEqual(lefted(0, "x^2", "1", "x", "0"), [1, "3*x^2"])
        self.assertEqual(lefted(1, "x^2", "0", "1", "-1"), [1, "-2*x - 3"])
        self.assertEqual(lefted(1, "x^2", "1", "0", "-1"), [1, "-4*x - 4"])
        self.assertEqual(lefted(1, "x^2", "1", "-1", "0"), [1, "-2*x - 1"])

    def test_zeros_at_the_end_change_nothing(self):
        for kind in (0, 1):
            for y in ("0", "5", "x^4 - 1/3*x"):
                for parts in (["x + 1"], ["x", "-1"], ["0", "2*x", "1/5"]):
                    shorter = lefted(kind, y, *parts)
                    self.assertEqual(lefted(kind, y, *parts, "0"), shorter)

    def test_powers_that_fall_away(self):
        self.assertEqual(lefted(0, "x^3 + x", "3", "-x"), [1, "2*x"])
        self.assertEqual(lefted(0, "x^2 + x", "x^2 - x"), [1, "x^4 - x^2"])
        self.assertEqual(lefted(0, "x^4 + 1", "-12", "0", "x^2"), [1, "-12"])
        self.assertEqual(lefted(1, "x^3", "-1", "3", "-3", "1"), [1, "6"])
        self.assertEqual(lefted(1, "x^4", "-1", "3", "-3", "1"), [1, "24*x + 36"])
        self.assertEqual(lefted(1, "x^4", "1", "0", "-1"), [1, "-8*x^3 - 24*x^2 - 32*x - 16"])

    def test_all_of_it_falls_away(self):
        self.assertEqual(lefted(0, "x^2 + 2*x + 2", "2", "-x - 2", "x"), [1, "0"])
        self.assertEqual(lefted(0, "x^4", "-4", "x"), [1, "0"])
        self.assertEqual(lefted(0, "x^2 - 1/3", "6", "-2*x", "-x^2 + 1"), [1, "0"])
        self.assertEqual(lefted(1, "x^2 + x", "-x - 2", "x"), [1, "0"])
        self.assertEqual(lefted(1, "x^2 - 5/7*x", "-1", "3", "-3", "1"), [1, "0"])

    def test_fractions_in_lowest_terms(self):
        for kind in (0, 1):
            self.assertEqual(lefted(kind, "1/6", "1/6*x + 3/2"), [1, "1/36*x + 1/4"])
            self.assertEqual(lefted(kind, "5/6*x", "-6/5*x"), [1, "-x^2"])
            self.assertEqual(lefted(kind, "9999/9998", "9998/9999"), [1, "1"])
        self.assertEqual(lefted(0, "1/2*x^2 + 1/3*x", "1/2", "1/3"), [1, "1/4*x^2 + 1/2*x + 1/9"])
        self.assertEqual(lefted(1, "1/2*x", "1/3", "2/3"), [1, "1/2*x + 1/3"])

    def test_numbers_of_many_digits_by_hand(self):
        for kind in (0, 1):
            self.assertEqual(
                lefted(kind, "1/9973*x^4 - 9967/9949", "9941/9931*x^4 - 1/9929"),
                [1, f"9941/{9973 * 9931}*x^8 - "
                 f"{9941 * 9967 * 9973 * 9929 + 9931 * 9949}/{9931 * 9949 * 9973 * 9929}*x^4 + {9967}/{9949 * 9929}"])


class AgainstASecondWay(unittest.TestCase):
    def check(self, kind, y, parts):
        """Whether left tells what fractions tell, and what the values at some places tell; gives its text."""
        answer = lefted(kind, text_of(y), *[text_of(part) for part in parts])
        right = text_of(left_of(kind, parts, y))
        self.assertEqual(answer, [1, right], (kind, y, parts))
        if kind == 1:
            side = numbers_of(answer[1])
            for place in range(-5, 6):
                # Values as they come, with no polynomial moved.
                total = sum(value(part, place) * value(y, place + step) for step, part in enumerate(parts))
                self.assertEqual(value(side, place), total, (kind, y, parts))
        return answer[1]

    def test_small_numbers(self):
        generator = random.Random(21)
        seen = {}
        for turn in range(1500):
            kind = turn % 2
            y = some_numbers(generator, generator.randint(0, 5))
            parts = [some_numbers(generator, generator.randint(0, 5)) for k in range(generator.randint(1, 4))]
            text = self.check(kind, y, parts)
            seen[(kind, "size", len(parts))] = True
            seen[(kind, "length", len(y))] = True
            seen[(kind, "zero", text == "0" and y != [] and any(parts))] = True
            seen[(kind, "fraction", "/" in text)] = True
        for kind in (0, 1):
            for size in (1, 2, 3, 4):
                self.assertIn((kind, "size", size), seen)
            for length in range(6):
                self.assertIn((kind, "length", length), seen)
            self.assertIn((kind, "fraction", True), seen)
        self.assertIn((0, "zero", True), seen)

    def test_numbers_of_four_digits(self):
        generator = random.Random(22)
        longest = 0
        for turn in range(200):
            kind = turn % 2
            polynomials = []
            for k in range(generator.randint(2, 5)):
                polynomials.append([self.big_number(generator) for power in range(generator.randint(1, 5))])
            text = self.check(kind, polynomials[0], polynomials[1:])
            longest = max([longest] + [len(digits) for digits in re.findall("[0-9]+", text)])
        self.assertGreater(longest, 40)

    def big_number(self, generator):
        sign = generator.choice([1, -1])
        return sign * Fraction(generator.randint(1, 9999), generator.choice([1, 9999, generator.randint(1, 9999)]))

    def test_bottoms_with_nothing_in_common(self):
        for kind in (0, 1):
            numbers = [Fraction(-1 if k % 2 else 1, prime) for k, prime in enumerate(PRIMES)]
            polynomials = [numbers[start:start + 5] for start in range(0, 25, 5)]
            text = self.check(kind, polynomials[0], polynomials[1:])
            self.assertIn("-", text)
            self.assertGreater(max(len(digits) for digits in re.findall("[0-9]+", text)), 60)


class FitsSolve(unittest.TestCase):
    def assert_left_is(self, kind, y, parts, right):
        self.assertEqual(lefted(kind, y, *parts), [1, right], (kind, y, parts))

    def test_by_hand(self):
        for kind, parts, right in (
            (0, ["2", "-x - 2", "x"], "0"), (0, ["2", "-x - 2", "x"], "-x^3"), (0, ["1", "1"], "x^2"),
            (0, ["0", "0", "0", "1"], "6"), (1, ["-1", "1"], "x^2"), (1, ["1", "1"], "x"),
            (1, ["-x - 2", "x"], "0"), (1, ["-1", "3", "-3", "1"], "x"), (1, ["2/3"], "x^4"),
        ):
            answer = solved(kind, [len(parts)], *parts, right)
            self.assertGreaterEqual(answer[0], 0)
            self.assert_left_is(kind, answer[1], parts, right)
            for other in answer[2:]:
                self.assert_left_is(kind, other, parts, "0")

    def test_many(self):
        generator = random.Random(23)
        tried = [0, 0]
        for turn in range(400):
            kind = turn % 2
            parts, right = equation_for(generator, kind, some_numbers(generator, 4))
            texts = [text_of(part) for part in parts]
            if not taken(parts + [right]):
                continue
            answer = solved(kind, [len(parts)], *texts, text_of(right))
            if answer[0] < 0:
                self.assertEqual(answer, [-2])
                continue
            y = numbers_of(answer[1])
            for place, other in enumerate(answer[2:]):
                # y0 plus a number times each of the others solves it as well.
                y = added(y, multiplied([Fraction(place + 2, 3)], numbers_of(other)))
                if taken([numbers_of(other)]):
                    self.assert_left_is(kind, other, texts, "0")
            for told in (numbers_of(answer[1]), y):
                if taken([told]):
                    self.assert_left_is(kind, text_of(told), texts, text_of(right))
                    tried[kind] += 1
        self.assertGreater(min(tried), 200)

    def test_what_left_tells_is_solved_by_y(self):
        for kind, y, parts in (
            (0, "x + 2", ["2", "-x - 2", "x"]), (0, "1/2*x^3 - 5", ["1", "x"]), (0, "7", ["0", "1", "x"]),
            (1, "x^2 - 1/3", ["-1", "1"]), (1, "2*x", ["x", "1", "1"]), (1, "x^3", ["1", "-2", "0", "1"]),
        ):
            right = lefted(kind, y, *parts)[1]
            answer = solved(kind, [len(parts)], *parts, right)
            self.assertGreaterEqual(answer[0], 0)
            rest = added(numbers_of(y), multiplied([Fraction(-1)], numbers_of(answer[1])))
            for other in [numbers_of(text) for text in answer[2:]]:
                share = rest[len(other) - 1] if len(other) <= len(rest) else Fraction(0)
                rest = added(rest, multiplied([-share], other))
            self.assertEqual(rest, [])


class NothingIsChangedOrKept(unittest.TestCase):
    CALLS = (
        (0, ["x + 2", "2", "-x - 2", "x"]),
        (1, ["x^2", "-1", "1"]),
        (1, ["x^4 - 1/7", "9999/9998*x^4", "-1/3", "0", "x"]),
        (0, ["0", "0"]),
        (0, ["x^4", "1", "1", "1", "1"]),
        (0, ["x^1", "1"]),
        (0, ["1", "x^5"]),
        (1, ["10000", "x + "]),
        (2, ["x", "1"]),
        (0, ["x"]),
        (0, ["x"] * 8),
        (1, []),
    )

    def test_what_is_handed_in_stays_and_answers_repeat(self):
        firsts = []
        for turn in range(2):
            for place, (kind, texts) in enumerate(self.CALLS):
                handed = [bytes_of(text) for text in texts]
                before = copy.deepcopy(handed)
                lists = list(handed)
                answer = left(kind, handed)
                self.assertEqual(handed, before)
                self.assertTrue(all(now is then for now, then in zip(handed, lists)))
                self.assertEqual(left(kind, handed), answer)
                if turn == 0:
                    firsts.append(answer)
                self.assertEqual(firsts[place], answer)

    def test_an_answer_is_a_list_of_its_own(self):
        texts = [bytes_of("x"), bytes_of("1")]
        answer = left(0, texts)
        answer.append(7)
        self.assertEqual(left(0, texts), [1, 1, 120])
        refused = left(2, texts)
        refused.append(7)
        self.assertEqual(left(2, texts), [-6])

    def test_one_list_at_several_places(self):
        same = bytes_of("x")
        self.assertEqual(left(0, [same, same, same]), [1, 7] + bytes_of("x^2 + x"))
        self.assertEqual(left(1, [same, same, same]), [1, 9] + bytes_of("2*x^2 + x"))
        self.assertEqual(same, [120])

    def test_nothing_of_solve_is_kept_for_left_nor_the_other_way(self):
        texts = [bytes_of(text) for text in ("x^2", "-1", "1")]
        alone = left(1, texts)
        solve(0, [2], texts)
        solve(1, [1, 1], [[49], [48]] * 2)
        self.assertEqual(left(1, texts), alone)
        told = solve(1, [2], texts)
        left(0, texts)
        self.assertEqual(solve(1, [2], texts), told)


if __name__ == "__main__":
    unittest.main()
