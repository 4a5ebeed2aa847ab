"""Whole numbers: what goes into two of them, what two of them go into, and the product of the first ones."""


def greatest_divisor(first, second):
    """Give the greatest whole number that goes into both, or 0 if both are 0."""
    big = abs(first)
    small = abs(second)
    while small != 0:
        rest = big % small
        big = small
        small = rest
    return big


def least_multiple(first, second):
    """Give the least number above 0 that both go into; both are above 0."""
    return first // greatest_divisor(first, second) * second


def product_up_to(count):
    """Give the product of the whole numbers from 1 to count, 1 if there are none."""
    product = 1
    for factor in range(1, count + 1):
        product = product * factor
    return product
