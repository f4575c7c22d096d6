"""Shifts, and bytes picked out of a number, put into place or set to 0: op 12.

A work of SIZED_PICKS takes a, b and how many bytes are picked.
"""

from wordpicker.bits import ALL_BITS, low_bytes, side_by_side, signed


def shift_left(a, b):
    return (a << (b & 63)) & ALL_BITS


def shift_right(a, b):
    return a >> (b & 63)


def shift_right_signed(a, b):
    return (signed(a, 64) >> (b & 63)) & ALL_BITS


def bytes_told(b):
    """All bits of byte i are 1 where b's bit i is."""
    return side_by_side([0xFF if (b >> i) & 1 else 0 for i in range(8)], 8)


def bytes_cleared(a, b):
    return a & ~bytes_told(b)


def bytes_kept(a, b):
    return a & bytes_told(b)


def byte_shift(b):
    """How many bits lie below the byte that b points to."""
    return 8 * (b & 7)


def extract_low(a, b, size):
    return low_bytes(a >> byte_shift(b), size)


def extract_high(a, b, size):
    # A shift by 64 goes round to a shift by 0.
    shift = (64 - byte_shift(b)) & 63
    return low_bytes((a << shift) & ALL_BITS, size)


def shifted_wide(a, b, size):
    """The lowest bytes of a at the byte that b points to, the upper 64 bits still there."""
    return low_bytes(a, size) << byte_shift(b)


def insert_low(a, b, size):
    return shifted_wide(a, b, size) & ALL_BITS


def insert_high(a, b, size):
    return shifted_wide(a, b, size) >> 64


def mask_low(a, b, size):
    return a & ~insert_low(ALL_BITS, b, size)


def mask_high(a, b, size):
    return a & ~insert_high(ALL_BITS, b, size)


SHIFTS = {
    0x39: shift_left,
    0x34: shift_right,
    0x3C: shift_right_signed,
    0x30: bytes_cleared,
    0x31: bytes_kept,
}

SIZED_PICKS = {
    0x06: (extract_low, 1),
    0x16: (extract_low, 2),
    0x26: (extract_low, 4),
    0x36: (extract_low, 8),
    0x5A: (extract_high, 2),
    0x6A: (extract_high, 4),
    0x7A: (extract_high, 8),
    0x0B: (insert_low, 1),
    0x1B: (insert_low, 2),
    0x2B: (insert_low, 4),
    0x3B: (insert_low, 8),
    0x57: (insert_high, 2),
    0x67: (insert_high, 4),
    0x77: (insert_high, 8),
    0x02: (mask_low, 1),
    0x12: (mask_low, 2),
    0x22: (mask_low, 4),
    0x32: (mask_low, 8),
    0x52: (mask_high, 2),
    0x62: (mask_high, 4),
    0x72: (mask_high, 8),
}
