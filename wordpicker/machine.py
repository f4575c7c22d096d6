"""The calls on one machine, and their answers."""

from wordpicker.memory import Memory
from wordpicker.processor import NEXT_PLACE, Processor
from wordpicker.steps import do_steps

RESET = 0
SET = 1
GET = 2
REFUSAL = -2
MOST_STEPS = 1000000


def answer_reset(processor):
    processor.reset()
    return [0]


def answer_set(processor, which, value):
    if which < 0 or which > NEXT_PLACE:
        return [REFUSAL]
    if which == NEXT_PLACE:
        processor.place = value
    else:
        processor.put(which, value)
    return [0]


def answer_get(processor, which):
    if which < 0 or which > NEXT_PLACE:
        return [REFUSAL]
    if which == NEXT_PLACE:
        return [0, processor.place]
    return [0, processor.registers[which]]


def answer_run(processor, steps, first_bytes):
    if steps < 0 or steps > MOST_STEPS:
        return [REFUSAL]
    processor.memory = Memory(first_bytes)
    answer = do_steps(processor, steps)
    changes = processor.memory.changes()
    return answer + [len(changes)] + changes


def answer_call(processor, call):
    if call[0] == RESET:
        return answer_reset(processor)
    if call[0] == SET:
        return answer_set(processor, call[1], call[2])
    if call[0] == GET:
        return answer_get(processor, call[1])
    # What is left is run, whose bytes have their count ahead.
    return answer_run(processor, call[1], call[3:])


def call_length(calls, at):
    """How many numbers the call has that begins at a place of the list."""
    if calls[at] == RESET:
        return 1
    if calls[at] == SET:
        return 3
    if calls[at] == GET:
        return 2
    return 3 + calls[at + 2]


def answers(calls):
    """For each call of the list, in order: how many numbers are answered, then these."""
    processor = Processor()
    given = []
    at = 0
    while at < len(calls):
        behind = at + call_length(calls, at)
        answer = answer_call(processor, calls[at:behind])
        given.append(len(answer))
        given.extend(answer)
        at = behind
    return given
