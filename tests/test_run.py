"""Promise 3: steps, why a run stops, how many were done, and the bytes that have changed."""

import unittest

from tests.helper import REFUSED, RESET, TOP, ask, branch, code, operate, operate_bits, put, run, take, transfer

NOTHING = 0x18 << 26
NOT_THERE = 0x01 << 26
STAY = branch(0x30, 31, -1)
ADD_ONE = operate_bits(0x10, 0x20, 1, 1, 1)
STORE_BYTE = 0x0E
STORE_32 = 0x2C
LOAD_64 = 0x29


class Steps(unittest.TestCase):
    def test_refused(self):
        for steps in (-1, 1000001, -2147483648, 2147483647):
            found = ask(put(1, 5), put(32, 4), run(steps, code(ADD_ONE, ADD_ONE)), take(1), take(32))
            self.assertEqual(found[2:], [REFUSED, [0, 5], [0, 4]])

    def test_none(self):
        self.assertEqual(ask(run(0, code(ADD_ONE)), take(1), take(32)), [[0, 0, 0], [0, 0], [0, 0]])

    def test_steps_are_looked_at_first(self):
        for place in (1, 65536, TOP - 1):
            self.assertEqual(ask(put(32, place), run(0, code(NOT_THERE)))[1], [0, 0, 0])
        self.assertEqual(ask(run(0, code(NOT_THERE))), [[0, 0, 0]])
        self.assertEqual(ask(run(1, code(NOTHING, NOT_THERE))), [[1, 0, 0]])
        self.assertEqual(ask(run(2, code(NOTHING, NOT_THERE))), [[1, 1, 0]])

    def test_one(self):
        self.assertEqual(ask(run(1, code(ADD_ONE, ADD_ONE)), take(1), take(32)), [[1, 0, 0], [0, 1], [0, 4]])

    def test_a_million(self):
        found = ask(run(1000000, code(ADD_ONE, branch(0x30, 31, -2))), take(1), take(32))
        self.assertEqual(found, [[1000000, 0, 0], [0, 500000], [0, 0]])

    def test_each_step_counts_once(self):
        for steps in range(20):
            self.assertEqual(ask(run(steps, code(STAY)), take(32)), [[steps, 0, 0], [0, 0]])
            self.assertEqual(ask(run(steps, code(*[NOTHING] * 30)), take(32)), [[steps, 0, 0], [0, 4 * steps]])


class Why(unittest.TestCase):
    def check(self, words, done, why, place, number=0):
        found = ask(run(50, code(*words)), take(1), take(32))
        self.assertEqual(found, [[done, why, 0], [0, number], [0, place]])

    def test_1_no_such_instruction(self):
        self.check([ADD_ONE, ADD_ONE, NOT_THERE, ADD_ONE], 2, 1, 8, 2)

    def test_2_no_multiple(self):
        self.check([ADD_ONE, transfer(LOAD_64, 1, 31, 12)], 1, 2, 4, 1)

    def test_3_not_within(self):
        self.check([ADD_ONE, transfer(LOAD_64, 1, 31, -8)], 1, 3, 4, 1)

    def test_4_too_great_is_done(self):
        found = ask(put(1, TOP // 2 - 2), run(50, code(*[operate_bits(0x10, 0x60, 1, 1, 1)] * 5)), take(1), take(32))
        self.assertEqual(found[1:], [[2, 4, 0], [0, TOP // 2], [0, 8]])

    def test_5_the_system_is_passed(self):
        self.check([ADD_ONE, 0, ADD_ONE], 2, 5, 8, 1)

    def test_4_and_5_tell_even_at_the_last_step(self):
        great = operate(0x13, 0x60, 1, 1, 2)
        self.assertEqual(ask(put(1, 2 ** 62), run(1, code(great)), run(1, code(great, 0)))[1:], [[1, 4, 0], [1, 5, 0]])

    def test_the_next_run_goes_on_behind_4(self):
        great = operate(0x13, 0x60, 1, 1, 2)
        memory = code(great, great, NOTHING)
        found = ask(put(1, 2 ** 62), run(9, memory), run(9, memory), run(1, memory), take(32))
        self.assertEqual(found[1:], [[1, 4, 0], [1, 4, 0], [1, 0, 0], [0, 12]])

    def test_the_next_run_stops_at_1_again(self):
        memory = code(NOTHING, NOT_THERE)
        self.assertEqual(ask(run(9, memory), run(9, memory), take(32)), [[1, 1, 0], [0, 1, 0], [0, 4]])


class OwnPlace(unittest.TestCase):
    def test_no_multiple(self):
        for place in (1, 2, 3, 5, 65533, 65537, TOP - 3, TOP - 1):
            self.assertEqual(ask(put(32, place), run(5), take(32))[1:], [[0, 2, 0], [0, place]])

    def test_not_within(self):
        for place in (65536, 65540, 2 ** 32, 2 ** 63, TOP - 4):
            self.assertEqual(ask(put(32, place), run(5), take(32))[1:], [[0, 3, 0], [0, place]])

    def test_last_place(self):
        self.assertEqual(ask(put(32, 65532), run(5), take(32))[1:], [[1, 5, 0], [0, 65536]])
        self.assertEqual(ask(put(32, 65532), run(5), run(5), take(32))[2:], [[0, 3, 0], [0, 65536]])

    def test_what_is_stored_is_done(self):
        words = code(transfer(STORE_32, 2, 31, -8 + 1024), transfer(0x1A, 31, 3))
        found = ask(put(2, ADD_ONE), put(3, 1016), run(9, words), take(1), take(32))
        told = [number for i, byte in enumerate(code(ADD_ONE)) if byte for number in (1016 + i, byte)]
        self.assertEqual(found[2:], [[4, 5, len(told), *told], [0, 1], [0, 1024]])

    def test_past_the_last_place(self):
        words = code(transfer(STORE_32, 2, 3), transfer(0x1A, 31, 3))
        found = ask(put(2, NOTHING), put(3, 65532), run(9, words), take(32))
        self.assertEqual(found[2:], [[3, 3, 2, 65535, 0x60], [0, 65536]])

    def test_an_instruction_may_change_itself(self):
        words = code(transfer(STORE_32, 2, 31), branch(0x30, 31, -2))
        found = ask(put(2, NOT_THERE), run(9, words), take(32))
        told = [number for i in range(4) if code(NOT_THERE)[i] != words[i] for number in (i, code(NOT_THERE)[i])]
        self.assertEqual(found[1:], [[2, 1, len(told), *told], [0, 0]])

    def test_both_words_of_eight_bytes(self):
        for place in (0, 4, 8, 12):
            memory = [0] * place + code(ADD_ONE)
            self.assertEqual(ask(put(32, place), run(1, memory), take(1))[1:], [[1, 0, 0], [0, 1]])

    def test_branching_out(self):
        found = ask(run(9, code(branch(0x30, 31, -2))), take(32))
        self.assertEqual(found, [[1, 3, 0], [0, TOP - 4]])


class MemoryHandedIn(unittest.TestCase):
    def test_empty(self):
        self.assertEqual(ask(run(1), take(32)), [[1, 5, 0], [0, 4]])

    def test_part_of_an_instruction(self):
        word = code(ADD_ONE)
        self.assertEqual(ask(run(1, word[:1])), [[1, 5, 0]])
        self.assertEqual(ask(run(1, word[:3])), [[1, 5, 0]])
        self.assertEqual(ask(run(1, [0, 0, 0, 0x60])), [[1, 0, 0]])

    def test_1024(self):
        memory = code(*[ADD_ONE] * 256)
        self.assertEqual(ask(run(1000, memory), take(1), take(32)), [[257, 5, 0], [0, 256], [0, 1028]])

    def test_its_last_bytes_and_the_ones_behind(self):
        memory = code(transfer(LOAD_64, 1, 31, 1016), transfer(LOAD_64, 2, 31, 1024)) + [0] * 1008 + list(range(1, 9))
        self.assertEqual(len(memory), 1024)
        found = ask(put(2, 9), run(2, memory), take(1), take(2))
        self.assertEqual(found[1:], [[2, 0, 0], [0, 0x0807060504030201], [0, 0]])

    def test_a_length_that_is_no_multiple_of_8(self):
        for length in range(9, 17):
            memory = code(transfer(LOAD_64, 1, 31, 8), 0) + [255] * (length - 8)
            found = ask(run(1, memory), take(1))
            self.assertEqual(found, [[1, 0, 0], [0, 256 ** (length - 8) - 1]])


class Changes(unittest.TestCase):
    def stores(self, places):
        return code(*[transfer(STORE_BYTE, 1, 31, place) for place in places])

    def test_in_order_whatever_came_first(self):
        found = ask(put(1, 6), run(5, self.stores([900, 100, 32767, 99, 101])))
        self.assertEqual(found[1], [5, 0, 10, 99, 6, 100, 6, 101, 6, 900, 6, 32767, 6])

    def test_once_for_each_byte(self):
        self.assertEqual(ask(put(1, 6), run(3, self.stores([100, 100, 100])))[1], [3, 0, 2, 100, 6])

    def test_bytes_that_are_the_same_are_not_told(self):
        memory = self.stores([100]) + [0] * 96 + [6]
        self.assertEqual(ask(put(1, 6), run(1, memory))[1], [1, 0, 0])
        self.assertEqual(ask(put(1, 0), run(1, memory))[1], [1, 0, 2, 100, 0])

    def test_bytes_that_are_as_before_again_are_not_told(self):
        words = code(transfer(STORE_BYTE, 1, 31, 100), transfer(STORE_BYTE, 31, 31, 100))
        self.assertEqual(ask(put(1, 6), run(1, words))[1], [1, 0, 2, 100, 6])
        self.assertEqual(ask(put(1, 6), run(2, words))[1], [2, 0, 0])

    def test_told_whatever_stopped_it(self):
        great = operate(0x10, 0x60, 2, 2, 3)
        for word, done, why in ((NOT_THERE, 1, 1), (transfer(0x0C, 4, 31, 1), 1, 2), (transfer(0x0C, 4, 31, -2), 1, 3),
                                (great, 2, 4), (0, 2, 5)):
            found = ask(put(1, 6), put(2, 2 ** 62), run(9, self.stores([100]) + code(word)))
            self.assertEqual(found[2], [done, why, 2, 100, 6])

    def test_the_whole_memory_but_the_program(self):
        fill = code(
            transfer(STORE_BYTE, 1, 2), operate_bits(0x10, 0x20, 2, 1, 2), branch(0x30, 31, -3),
        )
        found = ask(put(1, 255), put(2, 12), run(1000000, fill), take(2))
        told = [number for place in range(12, 65536) for number in (place, 255)]
        self.assertEqual(found[2], [3 * 65524, 3, len(told), *told])
        self.assertEqual(found[3], [0, 65536])


class FromRunToRun(unittest.TestCase):
    def test_numbers_and_next_place_stay(self):
        memory = code(ADD_ONE, ADD_ONE, ADD_ONE)
        found = ask(run(1, memory), run(1, memory), take(1), take(32), run(1, memory), take(1), take(32))
        self.assertEqual(found, [[1, 0, 0], [1, 0, 0], [0, 2], [0, 8], [1, 0, 0], [0, 3], [0, 12]])

    def test_memory_does_not_stay(self):
        store = run(1, code(transfer(STORE_BYTE, 1, 31, 100)))
        load = run(1, code(transfer(LOAD_64, 2, 31, 96)))
        found = ask(put(1, 6), store, put(32, 0), put(2, 9), load, take(2))
        self.assertEqual(found[1:], [[1, 0, 2, 100, 6], [0], [0], [1, 0, 0], [0, 0]])

    def test_memory_handed_in_does_not_stay(self):
        self.assertEqual(ask(run(1, code(NOTHING, ADD_ONE)), run(1), take(1)), [[1, 0, 0], [1, 5, 0], [0, 0]])

    def test_changes_are_told_of_this_run_alone(self):
        store = run(1, code(transfer(STORE_BYTE, 1, 31, 100)))
        found = ask(put(1, 6), store, put(32, 0), store, put(32, 0), run(1, code(NOTHING)))
        self.assertEqual([found[1], found[3], found[5]], [[1, 0, 2, 100, 6], [1, 0, 2, 100, 6], [1, 0, 0]])

    def test_the_watched_block_stays(self):
        watch = run(1, code(transfer(0x2A, 2, 31, 100)))
        store = run(1, code(transfer(0x2E, 1, 31, 104)))
        found = ask(put(1, 6), watch, run(0), put(32, 0), store, take(1), put(32, 0), store, take(1))
        self.assertEqual(found[4:], [[1, 0, 2, 104, 6], [0, 1], [0], [1, 0, 0], [0, 0]])

    def test_after_reset_nothing_stays(self):
        memory = code(ADD_ONE, ADD_ONE)
        found = ask(run(1, memory), RESET, run(1, memory), take(1), take(32))
        self.assertEqual(found, [[1, 0, 0], [0], [1, 0, 0], [0, 1], [0, 4]])


if __name__ == "__main__":
    unittest.main()
