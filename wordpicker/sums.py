"""Sums, differences, products and comparisons: ops 10 and 13.

A work of the SIZED tables takes a, b and how many bits its result keeps. One
of the CHECKED tables takes both numbers with their signs, already cut to the
bits told, and answers the exact result, which may be too great for them.
"""

from wordpicker.bits import extended, lanes_of, side_by_side, signed


def sum_once(a, b, bits):
    return extended(a + b, bits)


def sum_four_times(a, b, bits):
    return extended(4 * a + b, bits)


def sum_eight_times(a, b, bits):
    return extended(8 * a + b, bits)


def difference_once(a, b, bits):
    return extended(a - b, bits)


def difference_four_times(a, b, bits):
    return extended(4 * a - b, bits)


def difference_eight_times(a, b, bits):
    return extended(8 * a - b, bits)


def product(a, b, bits):
    return extended(a * b, bits)


def product_upper_half(a, b):
    return (a * b) >> 64


def exact_sum(a, b):
    return a + b


def exact_difference(a, b):
    return a - b


def exact_product(a, b):
    return a * b


def bytes_at_least(a, b):
    """Bit i is 1 where a's byte i isn't below b's."""
    return side_by_side([1 if x >= y else 0 for x, y in zip(lanes_of(a, 8), lanes_of(b, 8))], 1)


def is_below(a, b):
    return 1 if a < b else 0


def is_at_most(a, b):
    return 1 if a <= b else 0


def is_same(a, b):
    return 1 if a == b else 0


def is_below_signed(a, b):
    return 1 if signed(a, 64) < signed(b, 64) else 0


def is_at_most_signed(a, b):
    return 1 if signed(a, 64) <= signed(b, 64) else 0


SIZED_SUMS = {
    0x00: (sum_once, 32),
    0x02: (sum_four_times, 32),
    0x12: (sum_eight_times, 32),
    0x09: (difference_once, 32),
    0x0B: (difference_four_times, 32),
    0x1B: (difference_eight_times, 32),
    0x20: (sum_once, 64),
    0x22: (sum_four_times, 64),
    0x32: (sum_eight_times, 64),
    0x29: (difference_once, 64),
    0x2B: (difference_four_times, 64),
    0x3B: (difference_eight_times, 64),
}

CHECKED_SUMS = {
    0x40: (exact_sum, 32),
    0x49: (exact_difference, 32),
    0x60: (exact_sum, 64),
    0x69: (exact_difference, 64),
}

COMPARISONS = {
    0x0F: bytes_at_least,
    0x1D: is_below,
    0x3D: is_at_most,
    0x2D: is_same,
    0x4D: is_below_signed,
    0x6D: is_at_most_signed,
}

SIZED_PRODUCTS = {
    0x00: (product, 32),
    0x20: (product, 64),
}

CHECKED_PRODUCTS = {
    0x40: (exact_product, 32),
    0x60: (exact_product, 64),
}

UPPER_PRODUCTS = {
    0x30: product_upper_half,
}
