"""From a beginning: the numbers of a series, or a row of values, that solve an equation.

What is known so far is told by its tops, a list of whole numbers, all to be divided by one bottom that isn't 0.
"""

from slopesteps.polynomials import left_side
from slopesteps.polynomials import number_at
from slopesteps.polynomials import trimmed
from slopesteps.polynomials import value_at
from slopesteps.wholes import product_up_to


def can_go_on(kind, parts, count):
    """Tell whether the last of the parts isn't 0 at any place where it decides one of count numbers or values."""
    # A series is asked for this at 0, even if the beginning has all that's told.
    places = 1 if kind == 0 else count - len(parts) + 1
    return all([value_at(parts[-1], place) != 0 for place in range(places)])


def gone_on(kind, parts, right, beginning, count):
    """Give (tops, bottom) of the first count numbers or values, beginning being the tuple (tops, bottom) told."""
    start = from_slopes(beginning[0], beginning[1]) if kind == 0 else beginning
    tops = start[0]
    bottom = start[1]
    while len(tops) < count:
        place = len(tops) - len(parts) + 1
        lead = lead_at(kind, parts, place)
        wanted = number_at(right, place) if kind == 0 else value_at(right, place)
        rest = wanted * bottom - known_at(kind, parts, tops, place)
        # The next one is rest / (lead * bottom), so the others take lead into their tops.
        tops = [top * lead for top in tops] + [rest]
        bottom = bottom * lead
    return (tops[:count], bottom)


def from_slopes(tops, bottom):
    """Give (tops, bottom) of a series' first numbers, y and its slopes at 0 being told."""
    # The k-th slope of x^k is the product of 1 to k, so each slope is to be divided by its own product.
    common = product_up_to(len(tops))
    return ([common // product_up_to(order) * top for order, top in enumerate(tops)], bottom * common)


def lead_at(kind, parts, place):
    """Give what the next number or value is multiplied by, in the equation at a power or a place."""
    if kind == 1:
        return value_at(parts[-1], place)
    power = place + len(parts) - 1
    return number_at(left_side(kind, parts, [0] * power + [1]), place)


def known_at(kind, parts, tops, place):
    """Give what the tops known so far add up to, in the equation at a power or a place."""
    if kind == 1:
        return sum([value_at(part, place) * tops[place + step] for step, part in enumerate(parts[:-1])])
    # Only powers that are known, and the next one, come down to this power: what's beyond may be left out.
    return number_at(left_side(kind, parts, trimmed(tops)), place)
