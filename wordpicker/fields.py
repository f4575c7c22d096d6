"""The parts of an instruction's 32 bits that most instructions have."""


def op_of(word):
    return word >> 26


def a_of(word):
    return (word >> 21) & 31


def b_of(word):
    return (word >> 16) & 31
