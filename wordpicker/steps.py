"""Runs: instructions are done one behind another till steps have been or one stops them."""

from wordpicker.fields import op_of
from wordpicker.jumps import JUMPS
from wordpicker.operates import OPERATES
from wordpicker.reasons import NO_SUCH, STEPS_DONE, SYSTEM_CALLED, TOO_GREAT
from wordpicker.transfers import TRANSFERS


def do_instruction(processor, word):
    op = op_of(word)
    if op in OPERATES:
        work = OPERATES[op]
    elif op in TRANSFERS:
        work = TRANSFERS[op]
    elif op in JUMPS:
        work = JUMPS[op]
    else:
        return NO_SUCH
    return work(processor, word)


def is_done(why):
    """Whether the instruction counts that was stopped at."""
    return why == TOO_GREAT or why == SYSTEM_CALLED


def do_step(processor):
    """Do the next instruction; answers why the run stops, 0 where it goes on."""
    place = processor.place
    why = processor.memory.hindrance(place, 4)
    if why != 0:
        return why
    word = processor.memory.fetch(place, 4)
    # Every instruction finds the next place as 4 more and is free to put another there.
    processor.place = place + 4
    why = do_instruction(processor, word)
    if why != 0 and not is_done(why):
        processor.place = place
    return why


def do_steps(processor, steps):
    """Answers how many were done, then why it stopped."""
    for done in range(steps):
        why = do_step(processor)
        if why != 0:
            return [done + 1 if is_done(why) else done, why]
    return [steps, STEPS_DONE]
