"""What a may be asked: by op 11 before it moves b, by ops 38 to 3F before they branch."""

from wordpicker.bits import signed


def is_even(a):
    return a & 1 == 0


def is_odd(a):
    return a & 1 == 1


def is_zero(a):
    return a == 0


def is_not_zero(a):
    return a != 0


def is_negative(a):
    return signed(a, 64) < 0


def is_not_negative(a):
    return signed(a, 64) >= 0


def is_not_positive(a):
    return signed(a, 64) <= 0


def is_positive(a):
    return signed(a, 64) > 0


MOVES = {
    0x14: is_odd,
    0x16: is_even,
    0x24: is_zero,
    0x26: is_not_zero,
    0x44: is_negative,
    0x46: is_not_negative,
    0x64: is_not_positive,
    0x66: is_positive,
}

BRANCHES = {
    0x38: is_even,
    0x39: is_zero,
    0x3A: is_negative,
    0x3B: is_not_positive,
    0x3C: is_odd,
    0x3D: is_not_zero,
    0x3E: is_not_negative,
    0x3F: is_positive,
}
