"""What run answers: the numbers of a series, or the values of a row, from a beginning."""

import copy
import random
import re
import unittest
from fractions import Fraction

from tests.samples import PRIMES
from tests.tools import added, bytes_of, cut, equation_for, expected_run, falling, left_of, lefted, multiplied
from tests.tools import numbers_of, ran, slopes_at_0, solved, some_numbers, taken, text_of, value
from slopesteps.equations import left, run, solve


class ByHand(unittest.TestCase):
    def test_the_example_of_the_document(self):
        self.assertEqual(ran(1, 5, 2, "-1", "1", "x^2", "0"), [5, "0", "0", "1", "5", "14"])

    def test_y_that_is_its_own_slope(self):
        self.assertEqual(ran(0, 4, 2, "-1", "1", "0", "1"), [4, "1", "1", "1/2", "1/6"])
        wanted = [20] + [str(Fraction(1, falling(k, k))) for k in range(20)]
        self.assertEqual(ran(0, 20, 2, "-1", "1", "0", "1"), wanted)

    def test_the_answer_as_whole_numbers(self):
        texts = [bytes_of(text) for text in ("-1", "1", "0", "1")]
        self.assertEqual(run(0, 4, 2, texts), [4, 1, 49, 1, 49, 3, 49, 47, 50, 3, 49, 47, 54])
        texts = [bytes_of(text) for text in ("-1", "1", "x^2", "-1/2")]
        self.assertEqual(run(1, 3, 2, texts), [3, 4, 45, 49, 47, 50, 4, 45, 49, 47, 50, 3, 49, 47, 50])
        self.assertEqual(run(1, 1, 1, [[49], [48]]), [1, 1, 48])

    def test_n_of_0(self):
        for kind in (0, 1):
            for size in (1, 2, 3, 4):
                texts = [bytes_of("x + 1")] * (size + 1) + [bytes_of("5")] * (size - 1)
                self.assertEqual(run(kind, 0, size, texts), [0])

    def test_n_around_what_the_beginning_has(self):
        # y''' = 0 and y(x + 3) = 3*y(x + 2) - 3*y(x + 1) + y(x): both are solved by polynomials up to x^2.
        series = ["5", "-1/2", "1/3", "0", "0"]
        values = ["5", "-1/2", "2/3", "17/2", "23"]
        for n in range(6):
            self.assertEqual(ran(0, n, 4, "0", "0", "0", "1", "0", "5", "-1/2", "2/3"), [n] + series[:n])
            self.assertEqual(ran(1, n, 4, "-1", "3", "-3", "1", "0", "5", "-1/2", "2/3"), [n] + values[:n])
        for n in range(5):
            self.assertEqual(ran(0, n, 3, "0", "0", "1", "0", "7", "8"), [n] + ["7", "8", "0", "0"][:n])
            self.assertEqual(ran(1, n, 3, "0", "0", "1", "x", "7", "8"), [n] + ["7", "8", "0", "1"][:n])

    def test_size_1(self):
        # f / p0, as a series and by its values.
        self.assertEqual(ran(0, 5, 1, "-x + 1", "1"), [5, "1", "1", "1", "1", "1"])
        self.assertEqual(ran(0, 5, 1, "2*x + 1", "1"), [5, "1", "-2", "4", "-8", "16"])
        self.assertEqual(ran(0, 5, 1, "x^2 - x - 1", "-x"), [5, "0", "1", "-1", "2", "-3"])
        self.assertEqual(ran(0, 4, 1, "1", "3/2*x^2 - x + 1"), [4, "1", "-1", "3/2", "0"])
        self.assertEqual(ran(0, 3, 1, "x - 1", "0"), [3, "0", "0", "0"])
        self.assertEqual(ran(1, 4, 1, "x + 1", "1"), [4, "1", "1/2", "1/3", "1/4"])
        self.assertEqual(ran(1, 4, 1, "2", "x^2 - 4"), [4, "-2", "-3/2", "0", "5/2"])
        self.assertEqual(ran(1, 3, 1, "x - 9", "0"), [3, "0", "0", "0"])

    def test_series_that_are_known(self):
        cosine = ["1", "0", "-1/2", "0", "1/24", "0", "-1/720"]
        sine = ["0", "1", "0", "-1/6", "0", "1/120", "0"]
        self.assertEqual(ran(0, 7, 3, "1", "0", "1", "0", "1", "0"), [7] + cosine)
        self.assertEqual(ran(0, 7, 3, "1", "0", "1", "0", "0", "1"), [7] + sine)
        # (1 + x)*y' = 1 is the logarithm's, (1 + x)*y' = y/2 the square root's.
        self.assertEqual(ran(0, 5, 2, "0", "x + 1", "1", "0"), [5, "0", "1", "-1/2", "1/3", "-1/4"])
        self.assertEqual(ran(0, 5, 2, "-1/2", "x + 1", "0", "1"), [5, "1", "1/2", "-1/8", "1/16", "-5/128"])
        # y' = 2*x*y is that of e^(x^2).
        self.assertEqual(ran(0, 7, 2, "-2*x", "1", "0", "1"), [7, "1", "0", "1", "0", "1/2", "0", "1/6"])

    def test_rows_that_are_known(self):
        fibonacci = ["0", "1", "1", "2", "3", "5", "8", "13", "21", "34"]
        self.assertEqual(ran(1, 10, 3, "-1", "-1", "1", "0", "0", "1"), [10] + fibonacci)
        self.assertEqual(ran(1, 6, 2, "-x - 1", "1", "0", "1"), [6, "1", "1", "2", "6", "24", "120"])
        self.assertEqual(ran(1, 5, 2, "-1", "x + 1", "0", "1"), [5, "1", "1", "1/2", "1/6", "1/24"])
        self.assertEqual(ran(1, 5, 2, "-2", "1", "0", "-3"), [5, "-3", "-6", "-12", "-24", "-48"])
        self.assertEqual(ran(1, 7, 4, "-1", "0", "0", "1", "0", "1", "2", "3"), [7, "1", "2", "3", "1", "2", "3", "1"])

    def test_a_beginning_tells_slopes(self):
        # c2 is half of the second slope at 0, c3 a sixth of the third one, which the equation tells.
        self.assertEqual(ran(0, 3, 4, "0", "0", "0", "1", "0", "1", "1", "1"), [3, "1", "1", "1/2"])
        self.assertEqual(ran(0, 4, 4, "0", "0", "0", "1", "1", "0", "0", "0"), [4, "0", "0", "0", "1/6"])
        self.assertEqual(ran(0, 4, 4, "0", "0", "-1", "1", "0", "0", "0", "1"), [4, "0", "0", "1/2", "1/6"])
        self.assertEqual(ran(0, 3, 3, "-1", "0", "1", "0", "3", "5"), [3, "3", "5", "3/2"])
        self.assertEqual(ran(0, 5, 4, "-1", "0", "0", "1", "0", "7", "0", "6"), [5, "7", "0", "3", "7/6", "0"])

    def test_values_are_taken_as_they_stand(self):
        self.assertEqual(ran(1, 3, 4, "0", "0", "0", "1", "0", "1", "1", "1"), [3, "1", "1", "1"])
        self.assertEqual(ran(1, 4, 4, "0", "0", "0", "1", "1", "0", "0", "0"), [4, "0", "0", "0", "1"])

    def test_the_kind_decides(self):
        self.assertEqual(ran(0, 4, 2, "-1", "1", "x", "1"), [4, "1", "1", "1", "1/3"])
        self.assertEqual(ran(1, 4, 2, "-1", "1", "x", "1"), [4, "1", "1", "2", "4"])

    def test_f_that_is_0_and_f_that_is_not(self):
        self.assertEqual(ran(0, 5, 2, "1", "1", "0", "0"), [5] + ["0"] * 5)
        self.assertEqual(ran(1, 5, 2, "1", "1", "0", "0"), [5] + ["0"] * 5)
        self.assertEqual(ran(0, 7, 2, "0", "1", "x^4", "0"), [7, "0", "0", "0", "0", "0", "1/5", "0"])
        self.assertEqual(ran(1, 5, 2, "0", "1", "x^4", "0"), [5, "0", "0", "1", "16", "81"])
        # x^4 as its number at power 0, or as its value at 0, is 0; from 1 on they differ.
        self.assertEqual(ran(0, 3, 1, "1", "x^4"), [3, "0", "0", "0"])
        self.assertEqual(ran(1, 3, 1, "1", "x^4"), [3, "0", "1", "16"])

    def test_fractions_in_lowest_terms_and_signs(self):
        self.assertEqual(ran(0, 3, 2, "2/3", "-4/9", "0", "-6/5"), [3, "-6/5", "-9/5", "-27/20"])
        self.assertEqual(ran(1, 3, 2, "2/3", "-4/9", "0", "-6/5"), [3, "-6/5", "-9/5", "-27/10"])
        self.assertEqual(ran(1, 3, 2, "1/2", "-1/2", "1/3", "2/3"), [3, "2/3", "0", "-2/3"])
        self.assertEqual(ran(1, 2, 1, "-9998/9999", "9998/9999"), [2, "-1", "-1"])
        self.assertEqual(ran(1, 3, 1, "-x - 1", "-6"), [3, "6", "3", "2"])

    def test_powers_of_a_number_with_four_digits(self):
        row = [str(Fraction(-9973, 9967) ** k) for k in range(20)]
        self.assertEqual(ran(1, 20, 2, "9973", "9967", "0", "1"), [20] + row)
        self.assertEqual(ran(0, 20, 1, "9973/9967*x + 1", "1"), [20] + row)
        self.assertEqual(len(row[19]), 1 + 76 + 1 + 76)


class AgainstASecondWay(unittest.TestCase):
    def check(self, kind, n, parts, right, beginning):
        """Whether run tells what fractions tell, and whether it fits the equation and the beginning."""
        texts = [text_of(numbers) for numbers in parts + [right]] + [str(number) for number in beginning]
        answer = ran(kind, n, len(parts), *texts)
        self.assertEqual(answer, expected_run(kind, n, parts, right, beginning), (kind, n, texts))
        if answer[0] < 0:
            return answer
        self.assertEqual(len(answer), n + 1)
        row = [Fraction(text) for text in answer[1:]]
        first = slopes_at_0(row, n)[:len(beginning)] if kind == 0 else row[:len(beginning)]
        self.assertEqual(first, beginning[:n])
        padded = right + [Fraction(0)] * n
        for place in range(n - len(parts) + 1):
            if kind == 0:
                side = left_of(0, parts, row) + [Fraction(0)] * n
                self.assertEqual(side[place], padded[place], (n, texts))
            else:
                side = sum(value(part, place) * row[place + step] for step, part in enumerate(parts))
                self.assertEqual(side, value(right, place), (n, texts))
        return answer

    def test_small_numbers(self):
        generator = random.Random(41)
        seen = {}
        for turn in range(1200):
            kind = turn % 2
            size = generator.randint(1, 4)
            parts = [some_numbers(generator, generator.randint(0, 5)) for k in range(size)]
            if turn % 3 > 0:
                # Such a last polynomial is seldom 0 where it's needed.
                parts[-1] = cut([Fraction(generator.choice([1, -2, 3]), 2)] + [Fraction(turn % 2)] * (turn % 5))
            right = some_numbers(generator, generator.randint(0, 5))
            beginning = [Fraction(generator.randint(-3, 3), generator.randint(1, 4)) for k in range(size - 1)]
            n = generator.choice([0, 1, 2, 3, 4, 5, 9, 20])
            answer = self.check(kind, n, parts, right, beginning)
            seen[(kind, size, answer[0])] = True
            seen[(kind, size, "f", right == [])] = True
        for kind in (0, 1):
            for size in (1, 2, 3, 4):
                for number in (-5, 0, 1, 2, 3, 4, 5, 20):
                    self.assertIn((kind, size, number), seen)
                self.assertIn((kind, size, "f", True), seen)
                self.assertIn((kind, size, "f", False), seen)

    def test_numbers_of_four_digits(self):
        generator = random.Random(42)
        for turn in range(40):
            size = 1 + turn // 2 % 4
            parts = [[self.big_number(generator) for power in range(generator.randint(1, 5))] for k in range(size)]
            right = [self.big_number(generator) for power in range(generator.randint(1, 5))]
            beginning = [self.big_number(generator) for k in range(size - 1)]
            answer = self.check(turn % 2, 20, parts, right, beginning)
            self.assertEqual(answer[0], 20)

    def big_number(self, generator):
        sign = generator.choice([1, -1])
        return sign * Fraction(generator.randint(1, 9999), generator.choice([1, 9999, generator.randint(1, 9999)]))

    def test_bottoms_with_nothing_in_common(self):
        for kind in (0, 1):
            numbers = [Fraction(-1 if k % 3 else 1, prime) for k, prime in enumerate(PRIMES)]
            polynomials = [numbers[start:start + 5] for start in range(0, 25, 5)]
            answer = self.check(kind, 20, polynomials[:4], polynomials[4], numbers[25:28])
            self.assertGreater(max(len(digits) for digits in re.findall("[0-9]+", answer[20])), 400)


class FitsLeftAndSolve(unittest.TestCase):
    def assert_run_tells(self, kind, texts, y):
        """Whether run tells y, which solves the equation, from y's own beginning; False if that can't be handed in."""
        size = len(texts) - 1
        beginning = slopes_at_0(y, size - 1) if kind == 0 else [Fraction(value(y, k)) for k in range(size - 1)]
        if not taken([[number] for number in beginning]):
            return False
        last = numbers_of(texts[size - 1])
        n = 20
        if kind == 1:
            # As far as the last polynomial lets it.
            n = size - 1
            while n < 20 and value(last, n - size + 1) != 0:
                n += 1
            if n < 20:
                self.assertEqual(ran(kind, n + 1, size, *texts, *[str(number) for number in beginning]), [-5])
        elif value(last, 0) == 0:
            self.assertEqual(ran(kind, n, size, *texts, *[str(number) for number in beginning]), [-5])
            return False
        padded = list(y) + [Fraction(0)] * 20
        wanted = [padded[k] if kind == 0 else value(y, k) for k in range(n)]
        answer = ran(kind, n, size, *texts, *[str(number) for number in beginning])
        self.assertEqual(answer, [n] + [str(Fraction(number)) for number in wanted], (kind, texts))
        return n == 20

    def test_by_hand(self):
        for kind, texts in (
            (0, ["1", "1", "x^2"]), (0, ["0", "0", "0", "1", "6"]), (0, ["6", "-2*x", "-x^2 + 1", "0"]),
            (0, ["12", "-2*x", "-x^2 + 1", "0"]), (0, ["2/3", "x^4"]),
            (1, ["-1", "1", "x^2"]), (1, ["1", "1", "x"]), (1, ["-1", "3", "-3", "1", "x"]), (1, ["2/3", "x^4"]),
            (1, ["-x - 3", "x + 1", "0"]),
        ):
            answer = solved(kind, [len(texts) - 1], *texts)
            self.assertGreaterEqual(answer[0], 0)
            self.assertTrue(self.assert_run_tells(kind, texts, numbers_of(answer[1])), texts)
            for other in answer[2:]:
                y = added(numbers_of(answer[1]), multiplied([Fraction(-7, 3)], numbers_of(other)))
                self.assertTrue(self.assert_run_tells(kind, texts, y), texts)

    def test_the_sum_of_squares(self):
        y0 = solved(1, [2], "-1", "1", "x^2")[1]
        row = ran(1, 20, 2, "-1", "1", "x^2", "0")[1:]
        self.assertEqual(row, [str(value(numbers_of(y0), k)) for k in range(20)])

    def test_many(self):
        generator = random.Random(43)
        tried = [0, 0]
        for turn in range(600):
            kind = turn % 2
            parts, right = equation_for(generator, kind, some_numbers(generator, 4))
            texts = [text_of(numbers) for numbers in parts + [right]]
            if not taken(parts + [right]):
                continue
            answer = solved(kind, [len(parts)], *texts)
            if answer[0] < 0:
                continue
            y = numbers_of(answer[1])
            for place, other in enumerate(answer[2:]):
                y = added(y, multiplied([Fraction(place + 2, 3)], numbers_of(other)))
            tried[kind] += self.assert_run_tells(kind, texts, y)
        self.assertGreater(min(tried), 60)

    def test_what_left_tells_is_gone_on_with_y(self):
        tried = 0
        for kind, y, parts in (
            (0, "x + 2", ["2", "-x - 2", "x + 1"]), (0, "1/2*x^3 - 5", ["1", "1"]), (0, "7", ["0", "1", "x - 1/2"]),
            (0, "x^4 - x^2 + 3", ["0", "x", "0", "-2/3"]), (0, "x^4", ["x^2", "1"]), (0, "-x", ["x - 4"]),
            (1, "x^2 - 1/3", ["-1", "1"]), (1, "2*x", ["x", "1", "1"]), (1, "x^3", ["1", "-2", "0", "1"]),
            (1, "x^4 - x", ["1/2", "x + 1/2"]), (1, "-x + 5", ["x", "x", "x", "x - 1/2"]), (1, "x^2", ["x + 3"]),
        ):
            right = lefted(kind, y, *parts)[1]
            if taken([numbers_of(right)]):
                self.assertTrue(self.assert_run_tells(kind, parts + [right], numbers_of(y)), (kind, y, parts))
                tried += 1
        self.assertGreaterEqual(tried, 10)


class NothingIsChangedOrKept(unittest.TestCase):
    CALLS = (
        (1, 5, 2, ["-1", "1", "x^2", "0"]),
        (0, 4, 2, ["-1", "1", "0", "1"]),
        (0, 20, 4, ["x", "1/7", "-x^4", "x - 3", "x^2", "1", "-1/2", "9999"]),
        (1, 20, 4, ["x", "1/7", "-x^4", "x + 3", "x^2", "1", "-1/2", "9999"]),
        (1, 1, 3, ["1", "1", "0", "0", "5", "6"]),
        (0, 0, 1, ["1", "0"]),
        (0, 5, 1, ["x", "1"]),
        (1, 5, 1, ["x - 4", "1"]),
        (0, 5, 2, ["1", "1", "x^1", "1"]),
        (0, 5, 2, ["1", "x^5", "x", "1"]),
        (0, 5, 2, ["1", "1", "x", "x"]),
        (0, 5, 2, ["1", "1", "x", "10000"]),
        (0, 21, 1, ["1", "x"]),
        (2, 5, 1, ["1", "x"]),
        (0, 5, 1, ["x"] * 12),
        (0, 5, 0, []),
    )

    def test_what_is_handed_in_stays_and_answers_repeat(self):
        firsts = []
        for turn in range(2):
            for place, (kind, n, size, texts) in enumerate(self.CALLS):
                handed = [bytes_of(text) for text in texts]
                before = copy.deepcopy(handed)
                lists = list(handed)
                answer = run(kind, n, size, handed)
                self.assertEqual(handed, before)
                self.assertTrue(all(now is then for now, then in zip(handed, lists)))
                self.assertEqual(run(kind, n, size, handed), answer)
                if turn == 0:
                    firsts.append(answer)
                self.assertEqual(firsts[place], answer)

    def test_an_answer_is_a_list_of_its_own(self):
        texts = [bytes_of(text) for text in ("0", "1", "0", "7")]
        answer = run(1, 1, 2, texts)
        answer.append(7)
        self.assertEqual(run(1, 1, 2, texts), [1, 1, 55])
        refused = run(2, 1, 2, texts)
        refused.append(7)
        self.assertEqual(run(2, 1, 2, texts), [-6])

    def test_one_list_at_several_places(self):
        same = bytes_of("1")
        self.assertEqual(run(1, 3, 2, [same, same, same, same]), [3, 1, 49, 1, 48, 1, 49])
        self.assertEqual(same, [49])

    def test_nothing_is_kept_between_the_calls(self):
        texts = [bytes_of(text) for text in ("-1", "1", "x^2", "3")]
        alone = [run(1, 6, 2, texts), solve(1, [2], texts[:3]), left(1, texts)]
        run(0, 6, 2, texts)
        left(0, texts)
        solve(0, [2], texts[:3])
        run(1, 2, 1, texts[:2])
        self.assertEqual([run(1, 6, 2, texts), solve(1, [2], texts[:3]), left(1, texts)], alone)


if __name__ == "__main__":
    unittest.main()
