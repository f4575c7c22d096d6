"""What stays from run to run: the numbers, the next place and the block that is watched."""

ALWAYS_ZERO = 31
NEXT_PLACE = 32


class Processor:
    def __init__(self):
        self.reset()

    def reset(self):
        self.registers = [0] * 32
        self.place = 0
        # Each run brings a memory of its own.
        self.memory = None
        self.watch_nothing()

    def put(self, which, number):
        if which != ALWAYS_ZERO:
            self.registers[which] = number

    def watch(self, place):
        """The 16 bytes around place are watched from now on, no others."""
        self.watched = place >> 4

    def watch_nothing(self):
        self.watched = None

    def is_watching(self, place):
        return self.watched == place >> 4
