"""Promise 3: ops 08 and 09, loads, stores and the block that is watched."""

import unittest

from tests.helper import TOP, ask, code, put, run, take, transfer

PUT_PLACE = 0x08
PUT_PLACE_UPPER = 0x09
LOAD_BYTE = 0x0A
LOAD_EIGHT = 0x0B
LOAD_16 = 0x0C
STORE_16 = 0x0D
STORE_BYTE = 0x0E
STORE_EIGHT = 0x0F
LOAD_32 = 0x28
LOAD_64 = 0x29
LOAD_32_WATCHING = 0x2A
LOAD_64_WATCHING = 0x2B
STORE_32 = 0x2C
STORE_64 = 0x2D
STORE_32_WHERE_WATCHED = 0x2E
STORE_64_WHERE_WATCHED = 0x2F

LOADS = {LOAD_BYTE: 1, LOAD_16: 2, LOAD_32: 4, LOAD_64: 8, LOAD_32_WATCHING: 4, LOAD_64_WATCHING: 8}
STORES = {STORE_BYTE: 1, STORE_16: 2, STORE_32: 4, STORE_64: 8}
STORES_WHERE_WATCHED = {STORE_32_WHERE_WATCHED: 4, STORE_64_WHERE_WATCHED: 8}
NUMBER = 0x8191A1B1C1D1E1F1
PARTS = [0xF1, 0xE1, 0xD1, 0xC1, 0xB1, 0xA1, 0x91, 0x81]


def places_and_bytes(place, parts):
    return [number for i, byte in enumerate(parts) for number in (place + i, byte)]


def one(word, b, a=0):
    """The answers to one instruction with a as number 1 and b as number 2: the run, number 1, the next place."""
    return ask(put(1, a), put(2, b), run(1, code(word)), take(1), take(32))[2:]


class Places(unittest.TestCase):
    def test_sum_with_its_sign(self):
        for b, offset, result in (
            (0, 0, 0), (100, 1, 101), (100, -1, 99), (0, -1, TOP - 1), (TOP - 1, 1, 0), (5, 0x7FFF, 5 + 32767),
            (5, -0x8000, TOP + 5 - 32768), (TOP - 1, 0x7FFF, 32766),
        ):
            self.assertEqual(one(transfer(PUT_PLACE, 1, 2, offset), b), [[1, 0, 0], [0, result], [0, 4]])

    def test_upper_sum_with_its_sign(self):
        for b, offset, result in (
            (0, 0, 0), (3, 1, 65539), (3, -1, TOP + 3 - 65536), (0, 0x7FFF, 0x7FFF0000),
            (0, -0x8000, 0xFFFFFFFF80000000), (TOP - 65536, 1, 0), (TOP - 1, 2, 131071),
        ):
            self.assertEqual(one(transfer(PUT_PLACE_UPPER, 1, 2, offset), b), [[1, 0, 0], [0, result], [0, 4]])

    def test_31_as_source_and_target(self):
        found = ask(run(2, code(transfer(PUT_PLACE, 1, 31, 7), transfer(PUT_PLACE, 31, 1, 7))), take(1), take(31))
        self.assertEqual(found, [[2, 0, 0], [0, 7], [0, 0]])


class Loads(unittest.TestCase):
    def loaded(self, op, place, parts):
        word = transfer(op, 1, 2)
        memory = code(word) + [0] * 60 + parts
        return ask(put(2, place), run(1, memory), take(1))[1:]

    def test_each_load(self):
        for op, result in (
            (LOAD_BYTE, 0xF1), (LOAD_16, 0xE1F1), (LOAD_32, 0xFFFFFFFFC1D1E1F1), (LOAD_64, NUMBER),
            (LOAD_32_WATCHING, 0xFFFFFFFFC1D1E1F1), (LOAD_64_WATCHING, NUMBER), (LOAD_EIGHT, NUMBER),
        ):
            self.assertEqual(self.loaded(op, 64, PARTS), [[1, 0, 0], [0, result]], hex(op))

    def test_signs_borders(self):
        for op, size, greatest in (
            (LOAD_BYTE, 1, 0x7F), (LOAD_16, 2, 0x7FFF), (LOAD_32, 4, 0x7FFFFFFF), (LOAD_64, 8, 2 ** 63 - 1),
        ):
            for number in (0, 1, greatest, greatest + 1, 2 * greatest + 1):
                result = number
                if size == 4 and number > greatest:
                    result = number + TOP - 2 ** 32
                found = self.loaded(op, 64, list(number.to_bytes(size, "little")))
                self.assertEqual(found, [[1, 0, 0], [0, result]], (hex(op), number))

    def test_within_a_word(self):
        for at in range(8):
            self.assertEqual(self.loaded(LOAD_BYTE, 64 + at, PARTS)[1], [0, PARTS[at]])
            self.assertEqual(self.loaded(LOAD_EIGHT, 64 + at, PARTS)[1], [0, NUMBER])
        for at in (0, 2, 4, 6):
            self.assertEqual(self.loaded(LOAD_16, 64 + at, PARTS)[1], [0, PARTS[at] + 256 * PARTS[at + 1]])
        self.assertEqual(self.loaded(LOAD_32, 68, PARTS)[1], [0, 0xFFFFFFFF8191A1B1])

    def test_source_and_target_may_be_one(self):
        memory = code(transfer(LOAD_64, 1, 1, 8), 0) + PARTS
        self.assertEqual(ask(run(1, memory), take(1)), [[1, 0, 0], [0, NUMBER]])

    def test_31_as_target_and_as_place(self):
        memory = code(transfer(LOAD_64, 31, 31, 8), 0) + PARTS
        self.assertEqual(ask(run(1, memory), take(31), take(32)), [[1, 0, 0], [0, 0], [0, 4]])


class Stores(unittest.TestCase):
    def test_each_store(self):
        for op, size in STORES.items():
            found = one(transfer(op, 1, 2), 64, NUMBER)
            told = places_and_bytes(64, PARTS[:size])
            self.assertEqual(found, [[1, 0, len(told), *told], [0, NUMBER], [0, 4]], hex(op))

    def test_within_a_word(self):
        for op, size in STORES.items():
            for place in range(64, 72, size):
                told = places_and_bytes(place, PARTS[:size])
                self.assertEqual(one(transfer(op, 1, 2), place, NUMBER)[0], [1, 0, len(told), *told], hex(op))

    def test_other_bytes_stay(self):
        memory = code(transfer(STORE_16, 1, 2, 66), transfer(LOAD_64, 3, 2, 64)) + [0] * 56 + [9] * 8
        found = ask(put(1, 0x0708), run(2, memory), take(3))
        self.assertEqual(found[1:], [[2, 0, 4, 66, 8, 67, 7], [0, 0x0909090907080909]])

    def test_taken_down_to_a_multiple_of_8(self):
        for at in range(8):
            told = places_and_bytes(64, PARTS)
            self.assertEqual(one(transfer(STORE_EIGHT, 1, 2, at), 64, NUMBER)[0], [1, 0, 16, *told])

    def test_31_stores_zeros(self):
        memory = code(transfer(STORE_32, 31, 31, 8), 0) + PARTS
        self.assertEqual(ask(run(1, memory))[0], [1, 0, 8, 8, 0, 9, 0, 10, 0, 11, 0])


class Hindrances(unittest.TestCase):
    ALL = {**LOADS, **STORES, **STORES_WHERE_WATCHED}

    def check_stops(self, op, place, why):
        found = one(transfer(op, 1, 2), place, NUMBER)
        self.assertEqual(found, [[0, why, 0], [0, NUMBER], [0, 0]], (hex(op), place))

    def test_places_that_are_no_multiple(self):
        for op, size in self.ALL.items():
            for place in (64, 65536 - size, 65536, TOP - size):
                for more in range(1, size):
                    self.check_stops(op, place + more, 2)

    def test_first_places_past_memory(self):
        for op, size in self.ALL.items():
            for place in (65536, 65536 + size, 2 ** 32, 2 ** 63, TOP - size):
                self.check_stops(op, place, 3)

    def test_last_places_within_memory(self):
        for op, size in LOADS.items():
            self.assertEqual(one(transfer(op, 1, 2), 65536 - size, 5), [[1, 0, 0], [0, 0], [0, 4]], hex(op))
        for op, size in STORES.items():
            told = places_and_bytes(65536 - size, PARTS[:size])
            found = one(transfer(op, 1, 2), 65536 - size, NUMBER)
            self.assertEqual(found, [[1, 0, 2 * size, *told], [0, NUMBER], [0, 4]], hex(op))
        for op, size in STORES_WHERE_WATCHED.items():
            self.assertEqual(one(transfer(op, 1, 2), 65536 - size, 5), [[1, 0, 0], [0, 0], [0, 4]], hex(op))

    def test_taken_down_at_the_end(self):
        told = places_and_bytes(65528, PARTS)
        for place in range(65528, 65536):
            self.assertEqual(one(transfer(LOAD_EIGHT, 1, 2), place, 5)[:2], [[1, 0, 0], [0, 0]])
            self.assertEqual(one(transfer(STORE_EIGHT, 1, 2), place, NUMBER)[0], [1, 0, 16, *told])
        for place in (65536, 65537, 65543, TOP - 8, TOP - 1):
            self.check_stops(LOAD_EIGHT, place, 3)
            self.check_stops(STORE_EIGHT, place, 3)

    def test_places_go_round(self):
        found = one(transfer(STORE_64, 1, 2, 72), TOP - 8, NUMBER)
        self.assertEqual(found[0], [1, 0, 16, *places_and_bytes(64, PARTS)])
        self.check_stops(LOAD_64, TOP - 8, 3)
        self.assertEqual(one(transfer(LOAD_64, 1, 2, -8), 0, 5)[0], [0, 3, 0])

    def test_what_was_done_ahead_stays(self):
        words = code(transfer(STORE_BYTE, 1, 31, 64), transfer(STORE_16, 1, 31, 65))
        found = ask(put(1, 7), run(5, words), take(32))
        self.assertEqual(found[1:], [[1, 2, 2, 64, 7], [0, 4]])


class Watched(unittest.TestCase):
    def pair(self, load, load_place, store, store_place, a=NUMBER):
        words = code(transfer(load, 3, 31, load_place), transfer(store, 1, 31, store_place))
        return ask(put(1, a), run(2, words), take(1))[1:]

    def test_kept(self):
        for load in (LOAD_32_WATCHING, LOAD_64_WATCHING):
            for store, size in STORES_WHERE_WATCHED.items():
                told = places_and_bytes(64, PARTS[:size])
                self.assertEqual(self.pair(load, 64, store, 64), [[2, 0, 2 * size, *told], [0, 1]])

    def test_from_another_place_of_the_same_16_bytes(self):
        for load, load_size in ((LOAD_32_WATCHING, 4), (LOAD_64_WATCHING, 8)):
            for store, size in STORES_WHERE_WATCHED.items():
                for load_place in range(64, 80, load_size):
                    for place in range(64, 80, size):
                        told = places_and_bytes(place, PARTS[:size])
                        found = self.pair(load, load_place, store, place)
                        self.assertEqual(found, [[2, 0, 2 * size, *told], [0, 1]])

    def test_another_block(self):
        for store, size in STORES_WHERE_WATCHED.items():
            for load_place in (64, 72):
                for place in (64 - size, 80, 80 + size, 64 + 32768 - 16384):
                    self.assertEqual(self.pair(LOAD_64_WATCHING, load_place, store, place), [[2, 0, 0], [0, 0]])

    def test_nothing_watched(self):
        for store in STORES_WHERE_WATCHED:
            self.assertEqual(self.pair(LOAD_64, 64, store, 64), [[2, 0, 0], [0, 0]])
            self.assertEqual(one(transfer(store, 1, 2), 0, NUMBER), [[1, 0, 0], [0, 0], [0, 4]])

    def test_lost_after_a_store_that_is_done(self):
        store = transfer(STORE_64_WHERE_WATCHED, 1, 31, 64)
        words = code(transfer(LOAD_64_WATCHING, 3, 31, 64), store, store)
        self.assertEqual(ask(put(1, 7), run(3, words), take(1))[1:], [[3, 0, 2, 64, 7], [0, 0]])

    def test_lost_after_a_store_to_another_block(self):
        words = code(transfer(LOAD_64_WATCHING, 3, 31, 64), transfer(STORE_64_WHERE_WATCHED, 1, 31, 96),
                     transfer(STORE_64_WHERE_WATCHED, 2, 31, 64))
        found = ask(put(1, 7), put(2, 8), run(3, words), take(1), take(2))
        self.assertEqual(found[2:], [[3, 0, 0], [0, 0], [0, 0]])

    def test_the_later_load_tells(self):
        words = code(transfer(LOAD_64_WATCHING, 3, 31, 64), transfer(LOAD_32_WATCHING, 3, 31, 96),
                     transfer(STORE_64_WHERE_WATCHED, 1, 31, 104))
        self.assertEqual(ask(put(1, 7), run(3, words), take(1))[1:], [[3, 0, 2, 104, 7], [0, 1]])

    def test_plain_loads_and_stores_leave_it(self):
        words = code(transfer(LOAD_64_WATCHING, 3, 31, 64), transfer(LOAD_64, 4, 31, 96),
                     transfer(STORE_64, 1, 31, 64), transfer(STORE_BYTE, 1, 31, 80),
                     transfer(STORE_64_WHERE_WATCHED, 2, 31, 64))
        found = ask(put(1, 7), put(2, 8), run(5, words), take(2))
        self.assertEqual(found[2:], [[5, 0, 4, 64, 8, 80, 7], [0, 1]])

    def test_a_load_that_is_hindered_watches_nothing_new(self):
        for place, why in ((100, 2), (65536, 3)):
            words = [transfer(LOAD_64_WATCHING, 3, 31, 64), transfer(LOAD_64_WATCHING, 3, 5)]
            store = run(1, code(transfer(STORE_64_WHERE_WATCHED, 1, 31, 72)))
            found = ask(put(1, 7), put(5, place), run(2, code(*words)), put(32, 0), store, take(1))
            self.assertEqual(found[2:], [[1, why, 0], [0], [1, 0, 2, 72, 7], [0, 1]])

    def test_a_store_that_is_hindered_leaves_it(self):
        for place, why in ((100, 2), (65536, 3), (TOP - 8, 3)):
            words = [transfer(LOAD_64_WATCHING, 3, 31, 64), transfer(STORE_64_WHERE_WATCHED, 1, 5)]
            store = run(1, code(transfer(STORE_64_WHERE_WATCHED, 1, 31, 72)))
            found = ask(put(1, 7), put(5, place), run(2, code(*words)), take(1), put(32, 0), store, take(1))
            self.assertEqual(found[2:], [[1, why, 0], [0, 7], [0], [1, 0, 2, 72, 7], [0, 1]])

    def test_place_of_the_load_is_taken_ahead(self):
        memory = code(transfer(LOAD_64_WATCHING, 2, 2), transfer(STORE_32_WHERE_WATCHED, 1, 31, 64))
        memory += [0] * 56 + [200] + [0] * 7
        found = ask(put(1, 7), put(2, 64), run(2, memory), take(1), take(2))
        self.assertEqual(found[2:], [[2, 0, 2, 64, 7], [0, 1], [0, 200]])

    def test_place_and_result_may_be_one(self):
        words = code(transfer(LOAD_64_WATCHING, 3, 31, 64), transfer(STORE_64_WHERE_WATCHED, 2, 2))
        found = ask(put(2, 64), run(2, words), take(2))
        self.assertEqual(found[1:], [[2, 0, 2, 64, 64], [0, 1]])

    def test_31_stores_zeros_and_stays(self):
        memory = code(transfer(LOAD_64_WATCHING, 31, 31, 8), transfer(STORE_64_WHERE_WATCHED, 31, 31, 8)) + [5] * 8
        self.assertEqual(ask(run(2, memory), take(31)), [[2, 0, 16, *places_and_bytes(8, [0] * 8)], [0, 0]])

    def test_the_first_block_is_watched_like_others(self):
        found = self.pair(LOAD_64_WATCHING, 8, STORE_32_WHERE_WATCHED, 12)
        self.assertEqual(found, [[2, 0, 8, *places_and_bytes(12, PARTS[:4])], [0, 1]])


if __name__ == "__main__":
    unittest.main()
