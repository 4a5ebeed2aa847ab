"""Polynomials with whole numbers.

A polynomial is the list of its numbers from power 0 on, the last one not 0; 0 is the empty list.
"""


def trimmed(numbers):
    """Give the numbers without the zeros at their end."""
    end = len(numbers)
    while end > 0 and numbers[end - 1] == 0:
        end = end - 1
    return numbers[:end]


def plus(first, second):
    """Give the sum of two polynomials."""
    count = max(len(first), len(second))
    return trimmed([number_at(first, power) + number_at(second, power) for power in range(count)])


def number_at(polynomial, power):
    """Give the number that stands at a power, 0 above the highest one."""
    return polynomial[power] if power < len(polynomial) else 0


def times(first, second):
    """Give the product of two polynomials."""
    if first == [] or second == []:
        return []
    product = [0] * (len(first) + len(second) - 1)
    for low, number in enumerate(first):
        for high, other in enumerate(second):
            product[low + high] = product[low + high] + number * other
    return product


def slope(polynomial):
    """Give the polynomial's slope (its derivative)."""
    return [power * polynomial[power] for power in range(1, len(polynomial))]


def stepped(polynomial):
    """Give the polynomial at x + 1."""
    result = []
    for number in reversed(polynomial):
        result = plus(times(result, [1, 1]), [number])
    return result


def difference(polynomial):
    """Give the polynomial at x + 1, less itself."""
    return plus(stepped(polynomial), times([-1], polynomial))


def value_at(polynomial, place):
    """Give the polynomial's value at a whole number."""
    value = 0
    for number in reversed(polynomial):
        value = value * place + number
    return value


def left_side(kind, parts, y):
    """Give p0*y + p1*y' + ... (kind 0) or p0(x)*y(x) + p1(x)*y(x + 1) + ... (kind 1), parts being p0, p1, ..."""
    total = []
    moved = y
    for part in parts:
        total = plus(total, times(part, moved))
        moved = slope(moved) if kind == 0 else stepped(moved)
    return total
