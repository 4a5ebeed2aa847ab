"""Whole numbers: what goes into two of them, and what two of them go into."""


def greatest_divisor(first, second):
    """Give the greatest whole number that goes into both, or 0 if both are 0."""
    big = abs(first)
    small = abs(second)
    while small != 0:
        rest = big % small
        big = small
        small = rest
    return big


def least_multiple(first, second):
    """Give the least number above 0 that both go into; both are above 0."""
    return first // greatest_divisor(first, second) * second
