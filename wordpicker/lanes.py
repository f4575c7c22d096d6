"""Bits counted, signs carried on, and small numbers side by side: op 1C.

A work of SIZED_LANES takes a, b and how many bits each small number has. Most
works of LANES look at b alone and are still handed a, so that all are called
in one way.
"""

from wordpicker.bits import extended, lanes_of, side_by_side

SIGN_BITS = {8: 0x8080808080808080, 16: 0x8000800080008000}


def signed_byte(a, b):
    return extended(b, 8)


def signed_16(a, b):
    return extended(b, 16)


def count_ones(a, b):
    return sum(lanes_of(b, 1))


def count_zeros_from_top(a, b):
    return 64 - b.bit_length()


def count_zeros_from_bottom(a, b):
    if b == 0:
        return 64
    # b and -b share the lowest 1 alone.
    return (b & -b).bit_length() - 1


def sum_of_differences(a, b):
    return sum([abs(x - y) for x, y in zip(lanes_of(a, 8), lanes_of(b, 8))])


def spread_to_16(a, b):
    return side_by_side(lanes_of(b, 8)[:4], 16)


def spread_to_32(a, b):
    return side_by_side(lanes_of(b, 8)[:2], 32)


def gather_from_16(a, b):
    return side_by_side([lane & 0xFF for lane in lanes_of(b, 16)], 8)


def gather_from_32(a, b):
    return side_by_side([lane & 0xFF for lane in lanes_of(b, 32)], 8)


def less_of_each(a, b, bits):
    return side_by_side([min(x, y) for x, y in zip(lanes_of(a, bits), lanes_of(b, bits))], bits)


def greater_of_each(a, b, bits):
    return side_by_side([max(x, y) for x, y in zip(lanes_of(a, bits), lanes_of(b, bits))], bits)


def less_of_each_signed(a, b, bits):
    # With its highest bit turned, a number with a sign keeps its order as one without.
    turn = SIGN_BITS[bits]
    return less_of_each(a ^ turn, b ^ turn, bits) ^ turn


def greater_of_each_signed(a, b, bits):
    turn = SIGN_BITS[bits]
    return greater_of_each(a ^ turn, b ^ turn, bits) ^ turn


LANES = {
    0x00: signed_byte,
    0x01: signed_16,
    0x30: count_ones,
    0x32: count_zeros_from_top,
    0x33: count_zeros_from_bottom,
    0x31: sum_of_differences,
    0x34: spread_to_16,
    0x35: spread_to_32,
    0x36: gather_from_16,
    0x37: gather_from_32,
}

SIZED_LANES = {
    0x38: (less_of_each_signed, 8),
    0x39: (less_of_each_signed, 16),
    0x3A: (less_of_each, 8),
    0x3B: (less_of_each, 16),
    0x3C: (greater_of_each, 8),
    0x3D: (greater_of_each, 16),
    0x3E: (greater_of_each_signed, 8),
    0x3F: (greater_of_each_signed, 16),
}
