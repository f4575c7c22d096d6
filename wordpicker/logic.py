"""Numbers taken bit by bit: the part of op 11 that always has a result."""

from wordpicker.bits import ALL_BITS


def both(a, b):
    return a & b


def either(a, b):
    return a | b


def one_alone(a, b):
    return a ^ b


def both_turned(a, b):
    return a & (b ^ ALL_BITS)


def either_turned(a, b):
    return a | (b ^ ALL_BITS)


def one_alone_turned(a, b):
    return a ^ (b ^ ALL_BITS)


LOGIC = {
    0x00: both,
    0x20: either,
    0x40: one_alone,
    0x08: both_turned,
    0x28: either_turned,
    0x48: one_alone_turned,
}
