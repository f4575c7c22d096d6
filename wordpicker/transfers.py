"""The instructions with a place: sums of places, loads and stores.

Each def takes the processor, whose next place is already told, and the
instruction's 32 bits; it answers why the run stops, 0 where it goes on.
"""

from wordpicker.bits import ALL_BITS, extended, signed
from wordpicker.fields import a_of, b_of, op_of

SIZES = {
    0x0A: 1,
    0x0C: 2,
    0x28: 4,
    0x29: 8,
    0x2A: 4,
    0x2B: 8,
    0x0E: 1,
    0x0D: 2,
    0x2C: 4,
    0x2D: 8,
    0x2E: 4,
    0x2F: 8,
}


def size_of(word):
    return SIZES[op_of(word)]


def place_of(processor, word):
    return (processor.registers[b_of(word)] + signed(word, 16)) & ALL_BITS


def place_of_eight(processor, word):
    return place_of(processor, word) & ~7


def put_place(processor, word):
    processor.put(a_of(word), place_of(processor, word))
    return 0


def put_place_upper(processor, word):
    place = processor.registers[b_of(word)] + 65536 * signed(word, 16)
    processor.put(a_of(word), place & ALL_BITS)
    return 0


def load_from(processor, word, place, size):
    why = processor.memory.hindrance(place, size)
    if why == 0:
        number = processor.memory.fetch(place, size)
        # Bytes and 16 bits come without a sign, and 64 bits need none carried on.
        processor.put(a_of(word), extended(number, 32) if size == 4 else number)
    return why


def store_to(processor, word, place, size):
    why = processor.memory.hindrance(place, size)
    if why == 0:
        processor.memory.store(place, size, processor.registers[a_of(word)])
    return why


def load_number(processor, word):
    return load_from(processor, word, place_of(processor, word), size_of(word))


def load_eight(processor, word):
    return load_from(processor, word, place_of_eight(processor, word), 8)


def load_watching(processor, word):
    # The place is taken ahead of the load, which may change what it is told by.
    place = place_of(processor, word)
    why = load_from(processor, word, place, size_of(word))
    if why == 0:
        processor.watch(place)
    return why


def store_number(processor, word):
    return store_to(processor, word, place_of(processor, word), size_of(word))


def store_eight(processor, word):
    return store_to(processor, word, place_of_eight(processor, word), 8)


def store_where_watched(processor, word):
    place = place_of(processor, word)
    why = processor.memory.hindrance(place, size_of(word))
    if why != 0:
        return why
    stored = processor.is_watching(place)
    if stored:
        store_to(processor, word, place, size_of(word))
    processor.put(a_of(word), 1 if stored else 0)
    processor.watch_nothing()
    return 0


TRANSFERS = {
    0x08: put_place,
    0x09: put_place_upper,
    0x0A: load_number,
    0x0B: load_eight,
    0x0C: load_number,
    0x0D: store_number,
    0x0E: store_number,
    0x0F: store_eight,
    0x28: load_number,
    0x29: load_number,
    0x2A: load_watching,
    0x2B: load_watching,
    0x2C: store_number,
    0x2D: store_number,
    0x2E: store_where_watched,
    0x2F: store_where_watched,
}
