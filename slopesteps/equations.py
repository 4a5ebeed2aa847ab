"""The calls: what is handed in is checked, in the order of the promises, and what is answered is put together."""

from slopesteps.beginnings import can_go_on
from slopesteps.beginnings import gone_on
from slopesteps.heights import how_high
from slopesteps.polynomials import left_side
from slopesteps.polynomials import number_at
from slopesteps.polynomials import trimmed
from slopesteps.systems import all_solutions
from slopesteps.texts import read_number
from slopesteps.texts import read_polynomial
from slopesteps.texts import terms_over
from slopesteps.texts import write_polynomial
from slopesteps.wholes import least_multiple

NOT_SUCH_A_TEXT = -1
TOO_BIG = -2
NO_LEFT_SIDE = -3
NO_SOLUTION = -5
NO_WAY_ON = -5
WRONG_COUNT = -6

MOST_PARTS = 4
MOST_DEGREE = 4
MOST_NUMBER = 9999
MOST_HEIGHT = 24
MOST_VALUES = 20


def solve(kind, sizes, texts):
    """Tell all polynomials that solve one or two equations; sizes and texts as the document says."""
    if not counts_fit(kind, sizes, len(texts)):
        return [WRONG_COUNT]
    polynomials = [read_polynomial(text) for text in texts]
    refusal = texts_refusal(polynomials)
    if refusal != 0:
        return [refusal]
    equations = whole_equations(sizes, polynomials)
    if any([all_zero(parts) for parts, right in equations]):
        return [NO_LEFT_SIDE]
    # A height of -1, where nothing is named, leaves y = 0 alone, whatever the other equation's height is.
    height = min([how_high(kind, parts, right) for parts, right in equations])
    if height > MOST_HEIGHT:
        return [TOO_BIG]
    solutions = all_solutions(equation_rows(kind, equations, height + 1), height + 1)
    if solutions is None:
        return [NO_SOLUTION]
    return told(len(solutions[2]), [solutions[1]] + solutions[2], solutions[0])


def left(kind, texts):
    """Tell the left side of an equation for a given y; texts, y's first, as the document says."""
    if kind > 1 or len(texts) < 2 or len(texts) > 1 + MOST_PARTS:
        return [WRONG_COUNT]
    polynomials = [read_polynomial(text) for text in texts]
    refusal = texts_refusal(polynomials)
    if refusal != 0:
        return [refusal]
    common = common_bottom(polynomials)
    scaled = [whole_numbers(terms, common) for terms in polynomials]
    # Each product has the common bottom twice: once of y, once of the polynomial that y is multiplied by.
    return told(1, [left_side(kind, scaled[1:], scaled[0])], common * common)


def run(kind, n, size, texts):
    """Tell n numbers of the series, or n values, from a beginning; texts as the document says."""
    # The beginning has one text fewer than size, the rest are counted as for solve.
    if not counts_fit(kind, [size], len(texts) - size + 1):
        return [WRONG_COUNT]
    if n > MOST_VALUES:
        return [TOO_BIG]
    polynomials = [read_polynomial(text) for text in texts[:size + 1]]
    numbers = [read_number(text) for text in texts[size + 1:]]
    for read in (polynomials, numbers):
        refusal = texts_refusal(read)
        if refusal != 0:
            return [refusal]
    equation = whole_equations([size], polynomials)[0]
    if not can_go_on(kind, equation[0], n):
        return [NO_WAY_ON]
    found = gone_on(kind, equation[0], equation[1], over_common_bottom(numbers), n)
    return told(n, [[top] for top in found[0]], found[1])


def counts_fit(kind, sizes, count):
    """Tell whether the kind, each size, and how many sizes and texts there are is as the document asks."""
    if kind > 1 or len(sizes) < 1 or len(sizes) > 2:
        return False
    if any([size < 1 or size > MOST_PARTS for size in sizes]):
        return False
    return count == sum(sizes) + len(sizes)


def texts_refusal(polynomials):
    """Give the refusal for what was read of the texts, or 0 if there's none."""
    if None in polynomials:
        return NOT_SUCH_A_TEXT
    if any([too_big(terms) for terms in polynomials]):
        return TOO_BIG
    return 0


def too_big(terms):
    """Tell whether a polynomial's degree or one of its numbers is above what is taken."""
    return any([power > MOST_DEGREE or abs(top) > MOST_NUMBER or bottom > MOST_NUMBER for power, top, bottom in terms])


def whole_equations(sizes, polynomials):
    """Give each equation as a tuple (parts, right), both sides multiplied so that all its numbers are whole."""
    equations = []
    start = 0
    for size in sizes:
        end = start + size + 1
        common = common_bottom(polynomials[start:end])
        scaled = [whole_numbers(terms, common) for terms in polynomials[start:end]]
        equations.append((scaled[:size], scaled[size]))
        start = end
    return equations


def common_bottom(polynomials):
    """Give the least number above 0 that makes all the polynomials whole if they're multiplied by it."""
    common = 1
    for terms in polynomials:
        for power, top, bottom in terms:
            common = least_multiple(common, bottom)
    return common


def whole_numbers(terms, common):
    """Give the polynomial of the terms, of a degree that's taken, times a number that each bottom goes into."""
    numbers = [0] * (MOST_DEGREE + 1)
    for power, top, bottom in terms:
        numbers[power] = common // bottom * top
    return trimmed(numbers)


def over_common_bottom(numbers):
    """Give (tops, bottom) of the numbers, each of them the terms of a polynomial without x."""
    common = common_bottom(numbers)
    return ([number_at(whole_numbers(terms, common), 0) for terms in numbers], common)


def all_zero(parts):
    """Tell whether all the polynomials are 0."""
    return all([part == [] for part in parts])


def equation_rows(kind, equations, count):
    """Give a row for each power in each equation, the unknowns being the count lowest numbers of y."""
    rows = []
    for parts, right in equations:
        columns = [left_side(kind, parts, [0] * power + [1]) for power in range(count)] + [right]
        powers = max([len(column) for column in columns])
        rows.extend([row_at(columns, power) for power in range(powers)])
    return rows


def row_at(columns, power):
    """Give the number that each polynomial has at a power."""
    return [number_at(column, power) for column in columns]


def told(number, polynomials, bottom):
    """Give the answer: the number, then the texts of the polynomials, all to be divided by bottom."""
    answer = [number]
    for numbers in polynomials:
        text = write_polynomial(terms_over(numbers, bottom))
        answer.append(len(text))
        answer.extend(text)
    return answer
