"""What run refuses, points 1, 2 and 4, and which refusal comes first."""

import unittest

from tests.samples import GREATEST, NO_TEXTS, NUMBERS, POLYNOMIALS, TOO_BIG, TOO_BIG_NUMBERS, WITH_X
from tests.tools import bytes_of, ran
from slopesteps.equations import run


def good_texts(size):
    """Texts that nothing is refused of: p0, p1, ... are 1, f is x, the beginning has zeros."""
    return ["1"] * size + ["x"] + ["0"] * (size - 1)


def with_text_at(text, size, places):
    """Good texts with the text at one of the places, for each of them; together with the size."""
    for place in places:
        texts = good_texts(size)
        texts[place] = text
        yield size, texts


def among_polynomials(text):
    for size in (1, 2, 3, 4):
        yield from with_text_at(text, size, range(size + 1))


def in_the_beginning(text):
    for size in (2, 3, 4):
        yield from with_text_at(text, size, range(size + 1, 2 * size))


class WrongCounts(unittest.TestCase):
    def test_a_kind_that_is_not_0_or_1(self):
        for kind in (2, 3, 4, 255, 256, 65536, 2 ** 31, 2 ** 32 - 2, GREATEST):
            for size in (1, 2, 3, 4):
                for n in (0, 1, 5, 20):
                    self.assertEqual(ran(kind, n, size, *good_texts(size)), [-6])
        for kind in (0, 1):
            self.assertEqual(ran(kind, 1, 1, *good_texts(1)), [1, "0"])

    def test_a_size_that_is_not_1_to_4(self):
        for size in (0, 5, 6, 7, 12, 255, 256, 65537, 2 ** 31, GREATEST):
            for kind in (0, 1):
                for count in range(13):
                    self.assertEqual(ran(kind, 3, size, *["1"] * count), [-6], (size, count))

    def test_another_count_of_texts(self):
        for kind in (0, 1):
            for size in (1, 2, 3, 4):
                for n in (0, 3, 20):
                    for count in range(13):
                        answer = ran(kind, n, size, *["1"] * count)
                        self.assertEqual(answer == [-6], count != 2 * size, (kind, size, n, count))
                        self.assertIn(answer[0], (-6, n))

    def test_no_texts(self):
        for kind in (0, 1, 2):
            for size in (0, 1, 2, 3, 4, 5, GREATEST):
                self.assertEqual(run(kind, 0, size, []), [-6])


class TooMany(unittest.TestCase):
    def test_the_edge(self):
        for kind in (0, 1):
            for size in (1, 2, 3, 4):
                self.assertEqual(ran(kind, 20, size, *good_texts(size))[0], 20)
                self.assertEqual(len(ran(kind, 20, size, *good_texts(size))), 21)
                for n in (21, 22, 24, 255, 256, 276, 2 ** 31, 2 ** 32 - 2, GREATEST):
                    self.assertEqual(ran(kind, n, size, *good_texts(size)), [-2])


class NotPolynomials(unittest.TestCase):
    def test_each_by_itself_at_each_place(self):
        for text in NO_TEXTS:
            for size, texts in among_polynomials(text):
                for kind in (0, 1):
                    self.assertEqual(ran(kind, 6, size, *texts), [-1], texts)

    def test_also_where_it_would_not_count(self):
        for kind in (0, 1):
            for n in (0, 1, 2, 3):
                for size, texts in among_polynomials("x^1"):
                    self.assertEqual(ran(kind, n, size, *texts), [-1], texts)

    def test_polynomials_are_taken(self):
        for text in POLYNOMIALS:
            for size, texts in among_polynomials(text):
                self.assertEqual(ran(1, size - 1, size, *texts)[0], size - 1, texts)
                self.assertIn(ran(0, 6, size, *texts)[0], (6, -5), texts)

    def test_every_byte_that_stands_in_no_text(self):
        for byte in range(256):
            if byte not in bytes_of("0123456789 +-*/^x"):
                for text in ([byte], [120, byte], [byte, 120], [120, 32, 43, 32, byte], [49, byte, 50]):
                    self.assertEqual(run(0, 3, 1, [text, [48]]), [-1])
                    self.assertEqual(run(1, 3, 1, [[49], text]), [-1])
                    self.assertEqual(run(1, 3, 2, [[49], [49], [49], text]), [-1])


class PolynomialsTooBig(unittest.TestCase):
    def test_each_by_itself_at_each_place(self):
        for text in TOO_BIG:
            for size, texts in among_polynomials(text):
                for kind in (0, 1):
                    self.assertEqual(ran(kind, 6, size, *texts), [-2], texts)
                    self.assertEqual(ran(kind, 0, size, *texts), [-2], texts)

    def test_the_edges(self):
        for small, big in (
            ("x^4 + 1", "x^5 + 1"), ("-x^4 - 1", "-x^5 - 1"),
            ("9999", "10000"), ("-9999", "-10000"), ("9999*x^2 + 1", "10000*x^2 + 1"), ("x - 9999", "x - 10000"),
            ("1/9999", "1/10000"), ("-1/9999*x + 1", "-1/10000*x + 1"), ("x + 1/9999", "x + 1/10000"),
            ("9999/2", "10001/2"), ("2/9999", "3/10000"),
        ):
            for kind in (0, 1):
                for size, texts in among_polynomials(small):
                    self.assertEqual(ran(kind, 4, size, *texts)[0], 4, texts)
                for size, texts in among_polynomials(big):
                    self.assertEqual(ran(kind, 4, size, *texts), [-2], texts)


class TheBeginning(unittest.TestCase):
    def test_what_is_no_number(self):
        for text in NO_TEXTS + WITH_X:
            for size, texts in in_the_beginning(text):
                for kind in (0, 1):
                    for n in (0, 6):
                        self.assertEqual(ran(kind, n, size, *texts), [-1], texts)

    def test_what_is_too_big(self):
        for text in TOO_BIG_NUMBERS:
            for size, texts in in_the_beginning(text):
                for kind in (0, 1):
                    for n in (0, 6):
                        self.assertEqual(ran(kind, n, size, *texts), [-2], texts)

    def test_numbers_are_taken_and_come_back_as_they_stand(self):
        for text in NUMBERS:
            for size, texts in in_the_beginning(text):
                self.assertEqual(ran(1, size - 1, size, *texts), [size - 1] + texts[size + 1:])
            self.assertEqual(ran(0, 1, 2, "1", "1", "0", text), [1, text])
            self.assertEqual(ran(0, 2, 3, "1", "1", "1", "0", text, text), [2, text, text])

    def test_a_single_byte(self):
        for byte in range(256):
            right = byte in bytes_of("0123456789")
            for kind in (0, 1):
                answer = run(kind, 1, 2, [[49], [49], [48], [byte]])
                self.assertEqual(answer, [1, 1, byte] if right else [-1])

    def test_long_texts(self):
        for kind in (0, 1):
            for text in ("1" * 199 + "a", " " * 200, "-" * 200, "0" * 200, "x^" + "9" * 198, "2/" + "4" * 198):
                self.assertEqual(ran(kind, 3, 2, "1", "1", "0", text), [-1])
            for text in ("9" * 200, "-" + "9" * 199, "1/" + "9" * 198):
                self.assertEqual(ran(kind, 3, 2, "1", "1", "0", text), [-2])


class NoWayOnOfKind0(unittest.TestCase):
    def test_the_last_is_0_at_0(self):
        for last in ("0", "x", "-x", "x^4", "x^2 - x", "1/2*x^3 + 9999*x"):
            for size in (1, 2, 3, 4):
                texts = good_texts(size)
                texts[size - 1] = last
                for n in range(21):
                    self.assertEqual(ran(0, n, size, *texts), [-5], (n, texts))

    def test_also_where_the_series_would_fit(self):
        self.assertEqual(ran(0, 3, 1, "x", "x^2"), [-5])
        self.assertEqual(ran(0, 3, 2, "-1", "x", "0", "0"), [-5])
        self.assertEqual(ran(0, 1, 2, "1", "0", "1", "1"), [-5])

    def test_the_last_is_0_elsewhere(self):
        for last in ("x - 1", "x + 1", "x^2 - 3*x + 2", "2*x - 1"):
            for size in (1, 2, 3, 4):
                texts = good_texts(size)
                texts[size - 1] = last
                for n in range(21):
                    self.assertEqual(ran(0, n, size, *texts)[0], n, (n, texts))

    def test_others_that_are_0(self):
        for size in (2, 3, 4):
            for place in range(size - 1):
                for text in ("0", "x"):
                    texts = good_texts(size)
                    texts[place] = text
                    self.assertEqual(ran(0, 9, size, *texts)[0], 9, texts)


class NoWayOnOfKind1(unittest.TestCase):
    def with_last(self, n, size, last):
        texts = good_texts(size)
        texts[size - 1] = last
        return ran(1, n, size, *texts)

    def test_one_root_at_each_place(self):
        for size in (1, 2, 3, 4):
            for root in range(25):
                last = f"x - {root}" if root else "x"
                for n in range(21):
                    # The equation is needed at 0, 1, ..., n - size.
                    refused = root <= n - size
                    self.assertEqual(self.with_last(n, size, last)[0], -5 if refused else n, (size, root, n))

    def test_the_first_the_midst_and_the_last_place(self):
        self.assertEqual(ran(1, 1, 2, "1", "x", "1", "5"), [1, "5"])
        self.assertEqual(ran(1, 2, 2, "1", "x", "1", "5"), [-5])
        self.assertEqual(ran(1, 4, 2, "0", "x - 3", "1", "5"), [4, "5", "-1/3", "-1/2", "-1"])
        self.assertEqual(ran(1, 5, 2, "0", "x - 3", "1", "5"), [-5])
        self.assertEqual(ran(1, 20, 2, "0", "x - 3", "1", "5"), [-5])
        self.assertEqual(ran(1, 20, 1, "x - 19", "0"), [-5])
        self.assertEqual(ran(1, 19, 1, "x - 19", "0"), [19] + ["0"] * 19)
        self.assertEqual(ran(1, 20, 1, "x - 20", "0"), [20] + ["0"] * 20)

    def test_also_where_any_value_would_fit(self):
        self.assertEqual(ran(1, 3, 1, "x - 1", "x - 1"), [-5])
        self.assertEqual(ran(1, 2, 2, "0", "x", "0", "1"), [-5])

    def test_roots_that_are_never_needed(self):
        for last in ("x + 1", "x + 7", "2*x - 1", "x^2 + 1", "3*x - 7", "x^2 + 3*x + 2", "x - 20", "x - 9999", "-5"):
            for size in (1, 2, 3, 4):
                for n in range(21):
                    self.assertEqual(self.with_last(n, size, last)[0], n, (n, size, last))

    def test_several_roots(self):
        # (x - 3)(x - 4), (x + 2)(x - 5), (2x - 1)(x - 2)
        for last, root in (("x^2 - 7*x + 12", 3), ("x^2 - 3*x - 10", 5), ("2*x^2 - 5*x + 2", 2)):
            for size in (1, 2, 3, 4):
                for n in range(21):
                    refused = root <= n - size
                    self.assertEqual(self.with_last(n, size, last)[0], -5 if refused else n, (n, size, last))

    def test_the_last_is_0(self):
        for size in (1, 2, 3, 4):
            for n in range(21):
                wanted = [n] + ["0"] * n if n < size else [-5]
                self.assertEqual(self.with_last(n, size, "0"), wanted)
        self.assertEqual(ran(1, 2, 3, "0", "0", "0", "1", "3", "4"), [2, "3", "4"])
        self.assertEqual(ran(1, 0, 1, "0", "1"), [0])

    def test_others_that_are_0(self):
        for size in (2, 3, 4):
            for place in range(size - 1):
                for text in ("0", "x", "x - 2"):
                    texts = good_texts(size)
                    texts[place] = text
                    self.assertEqual(ran(1, 9, size, *texts)[0], 9, texts)


class TheOneToldFirst(unittest.TestCase):
    def test_counts_ahead_of_all_others(self):
        for n in (3, 21, GREATEST):
            for text in ("", "x^1", "x^5", "10000", "0"):
                for size in (1, 2, 3, 4):
                    self.assertEqual(ran(2, n, size, *[text] * (2 * size)), [-6])
                    self.assertEqual(ran(GREATEST, n, size, *[text] * (2 * size)), [-6])
                    for kind in (0, 1):
                        self.assertEqual(ran(kind, n, size, *[text] * (2 * size - 1)), [-6])
                        self.assertEqual(ran(kind, n, size, *[text] * (2 * size + 1)), [-6])
                for size in (0, 5, 6, GREATEST):
                    for count in (0, 1, 10, 12):
                        self.assertEqual(ran(0, n, size, *[text] * count), [-6])

    def test_n_ahead_of_what_the_texts_are(self):
        for n in (21, GREATEST):
            for text in ("", "x^1", "x^5", "10000", "0"):
                for size in (1, 2, 3, 4):
                    for place in range(2 * size):
                        texts = good_texts(size)
                        texts[place] = text
                        for kind in (0, 1):
                            self.assertEqual(ran(kind, n, size, *texts), [-2], texts)

    def test_not_a_polynomial_ahead_of_the_rest(self):
        for kind in (0, 1):
            for wrong in ("", "x^1", "2/4", "x + ", "-0"):
                for size, texts in among_polynomials(wrong):
                    place = texts.index(wrong)
                    for big in ("x^5", "10000", "1/10000"):
                        others = [big if k <= size else "0" for k in range(2 * size)]
                        others[place] = wrong
                        self.assertEqual(ran(kind, 5, size, *others), [-1], others)
                    for fault in ("", "x", "10000"):
                        others = texts[:size + 1] + [fault] * (size - 1)
                        self.assertEqual(ran(kind, 5, size, *others), [-1], others)
                    others = ["0" if k != place else wrong for k in range(2 * size)]
                    self.assertEqual(ran(kind, 5, size, *others), [-1], others)

    def test_a_polynomial_too_big_ahead_of_the_beginning(self):
        for kind in (0, 1):
            for big in ("x^5", "10000", "1/10000"):
                for size, texts in among_polynomials(big):
                    for fault in ("", "x", "-0", "x^5", "2/4", "10000"):
                        others = texts[:size + 1] + [fault] * (size - 1)
                        self.assertEqual(ran(kind, 5, size, *others), [-2], others)

    def test_what_is_no_number_ahead_of_a_number_too_big(self):
        for kind in (0, 1):
            for wrong in ("", "x", "x^5", "2/4", "-0", "1 + 1", "20000/2"):
                for big in ("10000", "-10000", "1/10000"):
                    self.assertEqual(ran(kind, 5, 3, "1", "1", "1", "0", big, wrong), [-1])
                    self.assertEqual(ran(kind, 5, 3, "1", "1", "1", "0", wrong, big), [-1])
                    for place in (5, 6, 7):
                        texts = good_texts(4)[:5] + [big] * 3
                        texts[place] = wrong
                        self.assertEqual(ran(kind, 5, 4, *texts), [-1], texts)

    def test_the_beginning_ahead_of_no_way_on(self):
        for kind in (0, 1):
            for last in ("0", "x"):
                for size in (2, 3, 4):
                    for place in range(size + 1, 2 * size):
                        texts = good_texts(size)
                        texts[size - 1] = last
                        self.assertEqual(ran(kind, 7, size, *texts), [-5])
                        for text, wanted in (("", -1), ("x", -1), ("10000", -2), ("1/10000", -2)):
                            texts[place] = text
                            self.assertEqual(ran(kind, 7, size, *texts), [wanted], texts)

    def test_polynomials_ahead_of_no_way_on(self):
        for kind in (0, 1):
            self.assertEqual(ran(kind, 7, 1, "0", "x^1"), [-1])
            self.assertEqual(ran(kind, 7, 1, "0", "x^5"), [-2])
            self.assertEqual(ran(kind, 7, 1, "x^5", "0"), [-2])
            self.assertEqual(ran(kind, 7, 1, "0", "0"), [-5])
            self.assertEqual(ran(kind, 21, 1, "0", "0"), [-2])


if __name__ == "__main__":
    unittest.main()
