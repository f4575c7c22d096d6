"""The instructions that go to another place, and those that do nothing but pass: ops 00, 18, 1A and 30 to 3F.

Each def takes the processor, whose next place is already told, and the
instruction's 32 bits; it answers why the run stops, 0 where it goes on.
"""

from wordpicker.bits import ALL_BITS, signed
from wordpicker.conditions import BRANCHES
from wordpicker.fields import a_of, b_of, op_of
from wordpicker.reasons import NO_SUCH, SYSTEM_CALLED


def call_system(processor, word):
    return SYSTEM_CALLED


def pass_barrier(processor, word):
    if word & 0xFFFF in (0x0000, 0x0400, 0x4000, 0x4400):
        return 0
    return NO_SUCH


def jump(processor, word):
    # Where both are one, its number is needed before the next place is put there.
    target = processor.registers[b_of(word)] & ~3
    processor.put(a_of(word), processor.place)
    processor.place = target
    return 0


def go_on(processor, word):
    processor.place = (processor.place + 4 * signed(word, 21)) & ALL_BITS


def branch(processor, word):
    processor.put(a_of(word), processor.place)
    go_on(processor, word)
    return 0


def branch_where(processor, word):
    condition = BRANCHES[op_of(word)]
    if condition(processor.registers[a_of(word)]):
        go_on(processor, word)
    return 0


JUMPS = {
    0x00: call_system,
    0x18: pass_barrier,
    0x1A: jump,
    0x30: branch,
    0x34: branch,
    0x38: branch_where,
    0x39: branch_where,
    0x3A: branch_where,
    0x3B: branch_where,
    0x3C: branch_where,
    0x3D: branch_where,
    0x3E: branch_where,
    0x3F: branch_where,
}
