"""Calls, answers and instructions in the forms that the tests need."""

from wordpicker.machine import answers

TOP = 2 ** 64
RESET = [0]
REFUSED = [-2]
SYSTEM = 0

# Numbers round 0, round the greatest number and round the signs' borders.
EDGES = [
    0, 1, 2, 3, 7, 8, 0x7F, 0x80, 0x81, 0xFF, 0x100, 0x7FFF, 0x8000, 0x8001, 0xFFFF, 0x10000,
    0x7FFFFFFF, 0x80000000, 0x80000001, 0xFFFFFFFF, 0x100000000, 0xFFFFFFFF80000000, 0xFFFFFFFF7FFFFFFF,
    0x7FFFFFFFFFFFFFFF, 0x8000000000000000, 0x8000000000000001, 0xFFFFFFFFFFFFFFFE, 0xFFFFFFFFFFFFFFFF,
    0x0123456789ABCDEF, 0xFEDCBA9876543210, 0x80017FFF00FFFF80,
]


def put(which, value):
    return [1, which, value]


def take(which):
    return [2, which]


def run(steps, memory=()):
    return [3, steps, len(memory), *memory]


def joined(calls):
    return [number for call in calls for number in call]


def split(numbers):
    """The flat list that is given back, as one list for each call."""
    found = []
    at = 0
    while at < len(numbers):
        found.append(numbers[at + 1:at + 1 + numbers[at]])
        at += 1 + numbers[at]
    assert at == len(numbers)
    return found


def ask(*calls):
    """The answers to these calls, a reset ahead of them; its own answer is left out."""
    return split(answers(joined([RESET, *calls])))[1:]


def code(*words):
    return [byte for word in words for byte in word.to_bytes(4, "little")]


def operate(op, function, a, b, c):
    return op << 26 | a << 21 | b << 16 | function << 5 | c


def operate_bits(op, function, a, bits, c):
    return op << 26 | a << 21 | bits << 13 | 1 << 12 | function << 5 | c


def transfer(op, a, b, offset=0):
    return op << 26 | a << 21 | b << 16 | offset & 0xFFFF


def branch(op, a, distance):
    return op << 26 | a << 21 | distance & 0x1FFFFF


def signed(number, bits):
    cut = (number % 2 ** bits).to_bytes(bits // 8, "little")
    return int.from_bytes(cut, "little", signed=True)


def eight(number):
    return number.to_bytes(8, "little")


def whole(parts):
    return int.from_bytes(bytes(parts), "little")
