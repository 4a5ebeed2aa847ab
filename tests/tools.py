"""What the tests share: calls with plain texts, and a second, slower way to find out what is right."""

import re
from fractions import Fraction

from slopesteps.equations import left, run, solve

TERM = re.compile(r"(?:(\d+)(?:/(\d+))?)?\*?(x)?(?:\^(\d+))?")


def bytes_of(text):
    return list(text.encode("latin-1"))


def untold(answer):
    """An answer as [number, text, text, ...]; its form is checked on the way."""
    assert isinstance(answer, list) and all(type(number) is int for number in answer), answer
    if answer[0] < 0:
        assert len(answer) == 1, answer
        return answer
    result = [answer[0]]
    place = 1
    while place < len(answer):
        end = place + 1 + answer[place]
        assert end <= len(answer), answer
        assert all(0 <= byte <= 255 for byte in answer[place + 1:end]), answer
        result.append(bytes(answer[place + 1:end]).decode("ascii"))
        place = end
    return result


def solved(kind, sizes, *texts):
    return untold(solve(kind, sizes, [bytes_of(text) for text in texts]))


def lefted(kind, *texts):
    return untold(left(kind, [bytes_of(text) for text in texts]))


def ran(kind, n, size, *texts):
    return untold(run(kind, n, size, [bytes_of(text) for text in texts]))


def numbers_of(text):
    """A polynomial's text as a list of fractions from power 0 on, without zeros at the end."""
    found = {}
    for piece in text.replace(" - ", " + -").split(" + "):
        sign = -1 if piece.startswith("-") else 1
        top, bottom, letter, power = TERM.fullmatch(piece.lstrip("-")).groups()
        place = int(power or 1) if letter else 0
        found[place] = sign * Fraction(int(top or 1), int(bottom or 1))
    return cut([found.get(place, Fraction(0)) for place in range(max(found) + 1)])


def text_of(numbers):
    """The text of a list of fractions."""
    text = ""
    for power in range(len(numbers) - 1, -1, -1):
        number = Fraction(numbers[power])
        if number == 0:
            continue
        sign = "-" if number < 0 else "+"
        text += f" {sign} " if text else sign.replace("+", "")
        letter = ["", "x"][power] if power < 2 else f"x^{power}"
        size = str(abs(number))
        text += size if not letter else letter if size == "1" else f"{size}*{letter}"
    return text or "0"


def cut(numbers):
    numbers = list(numbers)
    while numbers and numbers[-1] == 0:
        numbers.pop()
    return numbers


def added(first, second):
    size = max(len(first), len(second))
    return cut([(first[k] if k < len(first) else 0) + (second[k] if k < len(second) else 0) for k in range(size)])


def multiplied(first, second):
    result = [Fraction(0)] * (len(first) + len(second))
    for k, number in enumerate(first):
        for m, other in enumerate(second):
            result[k + m] += number * other
    return cut(result)


def moved(numbers, step):
    """The polynomial at x + step."""
    result = []
    power = [Fraction(1)]
    for number in numbers:
        result = added(result, multiplied([Fraction(number)], power))
        power = multiplied(power, [Fraction(step), Fraction(1)])
    return result


def left_of(kind, parts, y):
    total = []
    for order, part in enumerate(parts):
        if kind == 1:
            other = moved(y, order)
        else:
            other = list(y)
            for turn in range(order):
                other = [k * number for k, number in enumerate(other)][1:]
        total = added(total, multiplied(part, other))
    return total


def equations_of(sizes, texts):
    """A list of (parts, right) with fractions."""
    result = []
    rest = [numbers_of(text) for text in texts]
    for size in sizes:
        result.append((rest[:size], rest[size]))
        rest = rest[size + 1:]
    return result


def expected(kind, sizes, texts, most):
    """The answer if all solutions are to have a degree of at most most, found with fractions."""
    rows = []
    for parts, right in equations_of(sizes, texts):
        columns = [left_of(kind, parts, [0] * n + [1]) for n in range(most + 1)] + [right]
        for power in range(max(len(column) for column in columns)):
            rows.append([Fraction(column[power]) if power < len(column) else Fraction(0) for column in columns])
    pivots = []
    for column in range(most + 1):
        rank = len(pivots)
        found = [k for k in range(rank, len(rows)) if rows[k][column] != 0]
        if not found:
            continue
        rows[rank], rows[found[0]] = rows[found[0]], rows[rank]
        rows[rank] = [number / rows[rank][column] for number in rows[rank]]
        for k in range(len(rows)):
            if k != rank and rows[k][column] != 0:
                share = rows[k][column]
                rows[k] = [number - share * other for number, other in zip(rows[k], rows[rank])]
        pivots.append(column)
    if any(row[-1] != 0 for row in rows[len(pivots):]):
        return [-5]
    y0 = [Fraction(0)] * (most + 1)
    for k, column in enumerate(pivots):
        y0[column] = rows[k][-1]
    others = []
    for free in range(most + 1):
        if free not in pivots:
            other = [Fraction(0)] * (most + 1)
            other[free] = Fraction(1)
            for k, column in enumerate(pivots):
                other[column] = -rows[k][free]
            others.append(other)
    return [len(others), text_of(y0)] + [text_of(other) for other in others]


def falling(n, order):
    result = 1
    for k in range(order):
        result *= n - k
    return result


def height_of(kind, parts, right, most):
    """How high, as point 3 says it, with whole roots looked for from 0 to most one by one; None if there's none."""
    shares = parts
    if kind == 1:
        shares = []
        for order in range(len(parts)):
            share = []
            for k in range(order, len(parts)):
                ways = falling(k, order) // falling(order, order)
                share = added(share, [ways * number for number in parts[k]])
            shares.append(share)
    b = max(len(share) - 1 - order for order, share in enumerate(shares) if share)
    named = []
    for n in range(most + 1):
        if sum(s[-1] * falling(n, k) for k, s in enumerate(shares) if s and len(s) - 1 - k == b) == 0:
            named.append(n)
    if right and len(right) - 1 - b >= 0:
        named.append(len(right) - 1 - b)
    return max(named) if named else None


def some_numbers(generator, most):
    numbers = [Fraction(generator.choice([0, 0, 1, -1, 2, -3]), generator.choice([1, 1, 2, 3])) for k in range(most)]
    while numbers and numbers[-1] == 0:
        numbers.pop()
    return numbers


def equation_for(generator, kind, y):
    parts = [some_numbers(generator, generator.randint(0, 3)) for k in range(generator.randint(1, 4))]
    if not any(parts):
        parts[0] = [Fraction(1)]
    if kind == 1 and generator.randint(0, 3) > 0:
        parts = from_differences(parts)
    return parts, left_of(kind, parts, y)


def from_differences(shares):
    """p0, p1, ... of q0*y + q1*Dy + ...; such equations have others more often."""
    parts = []
    for share in reversed(shares):
        lower = [multiplied([Fraction(-1)], part) for part in parts] + [[]]
        parts = [added(first, second) for first, second in zip(lower, [[]] + parts)]
        parts[0] = added(parts[0], share)
    return parts


def taken(polynomials):
    numbers = [number for polynomial in polynomials for number in polynomial]
    small = all(abs(number.numerator) <= 9999 and number.denominator <= 9999 for number in map(Fraction, numbers))
    return small and all(len(polynomial) <= 5 for polynomial in polynomials)


def value(numbers, place):
    return sum(number * Fraction(place) ** power for power, number in enumerate(numbers))


def slopes_at_0(numbers, count):
    """The value at 0 of a polynomial and of its slopes, count in all."""
    padded = list(numbers) + [Fraction(0)] * count
    return [padded[order] * falling(order, order) for order in range(count)]


def expected_run(kind, n, parts, right, beginning):
    """What run answers, found with fractions: of kind 0 from the equation's own slopes at 0, taken n times."""
    last = parts[-1]
    size = len(parts)
    if kind == 0 and value(last, 0) == 0:
        return [-5]
    row = [Fraction(number) for number in beginning]
    for place in range(n - size + 1):
        if value(last, place if kind == 1 else 0) == 0:
            return [-5]
        if kind == 1:
            known = sum(value(part, place) * row[place + step] for step, part in enumerate(parts[:-1]))
            row.append((value(right, place) - known) / value(last, place))
        else:
            row.append(next_slope(parts, right, row, place))
    if kind == 0:
        row = [number / falling(order, order) for order, number in enumerate(row)]
    return [n] + [str(number) for number in row[:n]]


def next_slope(parts, right, row, times):
    """The slope of y at 0 behind those of row, from the equation's slope at 0, taken so many times."""
    known = Fraction(0)
    for order, part in enumerate(parts):
        of_part = slopes_at_0(part, times + 1)
        for turn in range(times + 1):
            ways = falling(times, turn) // falling(turn, turn)
            if order + times - turn < len(row):
                known += ways * of_part[turn] * row[order + times - turn]
    return (slopes_at_0(right, times + 1)[times] - known) / value(parts[-1], 0)
