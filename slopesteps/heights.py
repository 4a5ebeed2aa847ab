"""How high a polynomial that solves an equation may be."""

from slopesteps.polynomials import difference
from slopesteps.polynomials import plus
from slopesteps.polynomials import times
from slopesteps.polynomials import value_at


def how_high(kind, parts, right):
    """Give how high a solution may be, or -1 if nothing is named for it; not all parts are 0."""
    shares = parts if kind == 0 else by_differences(parts)
    rise = max([len(share) - 1 - order for order, share in enumerate(shares) if share != []])
    highest = greatest_whole_root(leading(shares, rise))
    if right == []:
        return highest
    return max(highest, len(right) - 1 - rise)


def by_differences(parts):
    """Give q0, q1, ... of q0*y + q1*Dy + ..., the same as p0(x)*y(x) + p1(x)*y(x + 1) + ..."""
    shares = []
    for part in reversed(parts):
        # A step is y and its difference: what's gathered so far counts once more, one difference further.
        shares = [plus(same, further) for same, further in zip(shares + [[]], [[]] + shares)]
        shares[0] = plus(shares[0], part)
    return shares


def leading(shares, rise):
    """Give the polynomial in n that stands at the power n + rise where y begins with x^n."""
    total = []
    for order, share in enumerate(shares):
        if share != [] and len(share) - 1 - order == rise:
            total = plus(total, times([share[-1]], falling_product(order)))
    return total


def falling_product(order):
    """Give n(n - 1)...(n - order + 1), a polynomial in n."""
    product = [1]
    for less in range(order):
        product = times(product, [-less, 1])
    return product


def greatest_whole_root(polynomial):
    """Give the greatest whole number, 0 or more, at which a polynomial that isn't 0 is 0; -1 if there's none."""
    # Beyond this place the highest power outweighs all the others, so every root lies below it.
    top = 1 + max([abs(number) for number in polynomial])
    greatest = -1
    for place in sign_changes(polynomial, top):
        if value_at(polynomial, place - 1) == 0:
            greatest = place - 1
    return greatest


def sign_changes(polynomial, top):
    """Give the places from 1 to top, rising, with another sign than the place before; 0 is a sign of its own."""
    if len(polynomial) <= 1:
        return []
    # Where its difference keeps its sign, the polynomial only rises or only falls, so halving finds each change.
    edges = [0] + sign_changes(difference(polynomial), top) + [top]
    changes = []
    for start, end in zip(edges, edges[1:]):
        place = start
        while sign_at(polynomial, place) != sign_at(polynomial, end):
            place = first_change(polynomial, place, end)
            changes.append(place)
    return changes


def first_change(polynomial, start, end):
    """Give the first place behind start with another sign; end has another one, and between both it's monotone."""
    sign = sign_at(polynomial, start)
    low = start
    high = end
    while high - low > 1:
        middle = (low + high) // 2
        if sign_at(polynomial, middle) == sign:
            low = middle
        else:
            high = middle
    return high


def sign_at(polynomial, place):
    """Give 1, 0 or -1: whether the value at a place is above, at or below 0."""
    value = value_at(polynomial, place)
    if value == 0:
        return 0
    return 1 if value > 0 else -1
