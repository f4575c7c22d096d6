"""The 65536 bytes that a run works on."""

from wordpicker.bits import ALL_BITS, lanes_of, low_bytes, side_by_side
from wordpicker.reasons import NOT_MULTIPLE, NOT_WITHIN

BYTES = 65536


class Memory:
    """Bytes kept as words of 64 bits: what is moved is a multiple of its own size, so one word holds it all."""

    def __init__(self, first_bytes):
        self.words = [0] * (BYTES // 8)
        for at in range(0, len(first_bytes), 8):
            self.words[at // 8] = side_by_side(first_bytes[at:at + 8], 8)
        self.words_before = list(self.words)
        self.touched = {}

    def hindrance(self, place, size):
        """Why size bytes at place can't be moved; 0 where they can."""
        if place & (size - 1):
            return NOT_MULTIPLE
        # The bytes' end is a multiple of size too, so it lies within memory wherever the place does.
        if place >= BYTES:
            return NOT_WITHIN
        return 0

    def fetch(self, place, size):
        return low_bytes(self.words[place >> 3] >> (8 * (place & 7)), size)

    def store(self, place, size, number):
        at = place >> 3
        shift = 8 * (place & 7)
        others = self.words[at] & ~(low_bytes(ALL_BITS, size) << shift)
        self.words[at] = others | (low_bytes(number, size) << shift)
        self.touched[at] = True

    def changes(self):
        """For each byte that is another now, in order, its place and what it is."""
        found = []
        for at in sorted(self.touched):
            found.extend(self.changes_in_word(at))
        return found

    def changes_in_word(self, at):
        found = []
        place = 8 * at
        for before, now in zip(lanes_of(self.words_before[at], 8), lanes_of(self.words[at], 8)):
            if before != now:
                found.extend([place, now])
            place += 1
        return found
