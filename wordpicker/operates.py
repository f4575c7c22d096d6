"""The instructions that work on numbers alone: ops 10, 11, 12, 13 and 1C.

Each def takes the processor, whose next place is already told, and the
instruction's 32 bits; it answers why the run stops, 0 where it goes on.
"""

from wordpicker.bits import extended, signed
from wordpicker.conditions import MOVES
from wordpicker.fields import a_of, b_of
from wordpicker.lanes import LANES, SIZED_LANES
from wordpicker.logic import LOGIC
from wordpicker.picks import SHIFTS, SIZED_PICKS
from wordpicker.reasons import NO_SUCH, TOO_GREAT
from wordpicker.sums import CHECKED_PRODUCTS, CHECKED_SUMS, COMPARISONS
from wordpicker.sums import SIZED_PRODUCTS, SIZED_SUMS, UPPER_PRODUCTS


def function_of(word):
    return (word >> 5) & 0x7F


def first_of(processor, word):
    return processor.registers[a_of(word)]


def second_of(processor, word):
    if word & 0x1000:
        return (word >> 13) & 0xFF
    return processor.registers[b_of(word)]


def put_plain(processor, word, work):
    number = work(first_of(processor, word), second_of(processor, word))
    processor.put(word & 31, number)
    return 0


def put_sized(processor, word, entry):
    """An entry is a work and the size that it is handed behind a and b."""
    work = entry[0]
    number = work(first_of(processor, word), second_of(processor, word), entry[1])
    processor.put(word & 31, number)
    return 0


def put_checked(processor, word, entry):
    """An entry is a work and how many bits its result must fit in."""
    work = entry[0]
    bits = entry[1]
    a = signed(first_of(processor, word), bits)
    b = signed(second_of(processor, word), bits)
    exact = work(a, b)
    processor.put(word & 31, extended(exact, bits))
    return 0 if signed(exact, bits) == exact else TOO_GREAT


def put_where(processor, word, condition):
    if condition(first_of(processor, word)):
        processor.put(word & 31, second_of(processor, word))
    return 0


def operate_sums(processor, word):
    function = function_of(word)
    if function in SIZED_SUMS:
        return put_sized(processor, word, SIZED_SUMS[function])
    if function in COMPARISONS:
        return put_plain(processor, word, COMPARISONS[function])
    if function in CHECKED_SUMS:
        return put_checked(processor, word, CHECKED_SUMS[function])
    return NO_SUCH


def operate_logic(processor, word):
    function = function_of(word)
    if function in LOGIC:
        return put_plain(processor, word, LOGIC[function])
    if function in MOVES:
        return put_where(processor, word, MOVES[function])
    return NO_SUCH


def operate_picks(processor, word):
    function = function_of(word)
    if function in SIZED_PICKS:
        return put_sized(processor, word, SIZED_PICKS[function])
    if function in SHIFTS:
        return put_plain(processor, word, SHIFTS[function])
    return NO_SUCH


def operate_products(processor, word):
    function = function_of(word)
    if function in SIZED_PRODUCTS:
        return put_sized(processor, word, SIZED_PRODUCTS[function])
    if function in UPPER_PRODUCTS:
        return put_plain(processor, word, UPPER_PRODUCTS[function])
    if function in CHECKED_PRODUCTS:
        return put_checked(processor, word, CHECKED_PRODUCTS[function])
    return NO_SUCH


def operate_lanes(processor, word):
    function = function_of(word)
    if function in LANES:
        return put_plain(processor, word, LANES[function])
    if function in SIZED_LANES:
        return put_sized(processor, word, SIZED_LANES[function])
    return NO_SUCH


OPERATES = {
    0x10: operate_sums,
    0x11: operate_logic,
    0x12: operate_picks,
    0x13: operate_products,
    0x1C: operate_lanes,
}
