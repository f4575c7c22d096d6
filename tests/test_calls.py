"""Promises 1 and 2, and the interface: reset, set, get, and lists of calls."""

import contextlib
import io
import unittest

from wordpicker.machine import answers

from tests.helper import REFUSED, RESET, TOP, ask, code, joined, operate_bits, put, run, split, take, transfer

LOAD_WATCHING = 0x2B
STORE_WHERE_WATCHED = 0x2F


class Reset(unittest.TestCase):
    def test_answers_zero(self):
        self.assertEqual(answers([0]), [1, 0])
        self.assertEqual(answers([0, 0]), [1, 0, 1, 0])

    def test_everything_is_zero_at_first(self):
        self.assertEqual(ask(*[take(which) for which in range(33)]), [[0, 0]] * 33)

    def test_numbers_and_next_place_are_zero_again(self):
        puts = [put(which, 1000 + which) for which in range(33)]
        takes = [take(which) for which in range(33)]
        found = ask(*puts, *takes, RESET, *takes)
        kept = [[0, 0 if which == 31 else 1000 + which] for which in range(33)]
        self.assertEqual(found, [[0]] * 33 + kept + [[0]] + [[0, 0]] * 33)

    def test_next_place_is_zero_again_after_a_run(self):
        nothing = 0x18 << 26
        found = ask(run(3, code(nothing, nothing, nothing)), take(32), RESET, take(32))
        self.assertEqual(found, [[3, 0, 0], [0, 12], [0], [0, 0]])

    def test_nothing_is_watched_any_more(self):
        watch = run(1, code(transfer(LOAD_WATCHING, 1, 31, 64)))
        store = run(1, code(transfer(STORE_WHERE_WATCHED, 2, 31, 64)))
        begin = [put(32, 0), put(2, 5)]
        kept = ask(watch, *begin, store, take(2))
        self.assertEqual(kept[3:], [[1, 0, 2, 64, 5], [0, 1]])
        lost = ask(watch, RESET, *begin, store, take(2))
        self.assertEqual(lost[4:], [[1, 0, 0], [0, 0]])


class SetAndGet(unittest.TestCase):
    def test_each_number_is_its_own(self):
        calls = [put(which, which * which + 1) for which in range(31)]
        found = ask(*calls, *[take(which) for which in range(31)])
        self.assertEqual(found[31:], [[0, which * which + 1] for which in range(31)])

    def test_greatest_and_least_values(self):
        for which in list(range(31)) + [32]:
            found = ask(put(which, TOP - 1), take(which), put(which, 0), take(which))
            self.assertEqual(found, [[0], [0, TOP - 1], [0], [0, 0]])

    def test_31_stays_zero(self):
        self.assertEqual(ask(put(31, 7), take(31), put(31, TOP - 1), take(31)), [[0], [0, 0], [0], [0, 0]])

    def test_32_is_the_next_place_even_where_nothing_can_be_done(self):
        for place in (4, 1, 65536, TOP - 1):
            self.assertEqual(ask(put(32, place), take(32)), [[0], [0, place]])

    def test_outside_is_refused(self):
        for which in (-1, 33, 34, 63, 64, -31, -32, -33, -2147483648, 2147483647):
            self.assertEqual(ask(put(which, 5), take(which)), [REFUSED, REFUSED])

    def test_refusal_is_its_number_alone(self):
        self.assertEqual(answers([0, 1, 33, 5, 2, -1]), [1, 0, 1, -2, 1, -2])

    def test_refusal_leaves_the_machine(self):
        puts = [put(which, 50 + which) for which in range(33)]
        takes = [take(which) for which in range(33)]
        refused = [put(-1, 9), put(33, 9), put(-32, 9), put(2147483647, 9), take(-1), take(33)]
        found = ask(*puts, *refused, *takes)
        self.assertEqual(found[33:39], [REFUSED] * 6)
        self.assertEqual(found[39:], [[0, 0 if which == 31 else 50 + which] for which in range(33)])

    def test_refusal_leaves_the_watched_block(self):
        watch = run(1, code(transfer(LOAD_WATCHING, 1, 31, 64)))
        store = run(1, code(transfer(STORE_WHERE_WATCHED, 2, 31, 64)))
        refused = [put(33, 1), take(33), run(-1), run(1000001)]
        found = ask(watch, *refused, put(32, 0), put(2, 5), store)
        self.assertEqual(found[1:5], [REFUSED] * 4)
        self.assertEqual(found[-1], [1, 0, 2, 64, 5])


class Interface(unittest.TestCase):
    CALLS = joined([
        RESET, put(1, 40), run(2, code(operate_bits(0x10, 0x20, 1, 2, 1), transfer(0x2D, 1, 31, 512))),
        take(1), take(40), run(-1, [1, 2, 3]), run(0), take(32),
    ])

    def test_calls_one_behind_another(self):
        self.assertEqual(
            split(answers(self.CALLS)),
            [[0], [0], [2, 0, 2, 512, 42], [0, 42], [-2], [-2], [0, 0, 0], [0, 8]],
        )

    def test_whole_flat_answer(self):
        calls = [0, 1, 3, 9, 2, 3, 3, 0, 2, 7, 7, 3, -1, 1, 9, 1, 99, 0]
        self.assertEqual(answers(calls), [1, 0, 1, 0, 2, 0, 9, 3, 0, 0, 0, 1, -2, 1, -2])

    def test_list_is_left_as_it_was(self):
        calls = list(self.CALLS)
        answers(calls)
        self.assertEqual(calls, self.CALLS)

    def test_same_list_same_answer(self):
        self.assertEqual(answers(self.CALLS), answers(self.CALLS))

    def test_nothing_is_kept_between_two_lists(self):
        answers(joined([RESET, put(5, 77), put(32, 8)]))
        self.assertEqual(ask(take(5), take(32)), [[0, 0], [0, 0]])

    def test_each_answer_is_a_list_of_its_own(self):
        first = answers([0])
        first.append(5)
        self.assertEqual(answers([0]), [1, 0])

    def test_whole_numbers_alone(self):
        same = operate_bits(0x10, 0x2D, 31, 0, 1)
        store = transfer(STORE_WHERE_WATCHED, 2, 31)
        found = answers(joined([RESET, run(2, code(same, store)), take(1), take(2)]))
        self.assertEqual({item.__class__ for item in found}, {int})

    def test_prints_nothing(self):
        with contextlib.redirect_stdout(io.StringIO()) as printed:
            answers(self.CALLS)
        self.assertEqual(printed.getvalue(), "")

    def test_a_thousand_calls(self):
        calls = [RESET] + [put(4, 6), take(4), run(0)] * 333
        self.assertEqual(answers(joined(calls)), [1, 0] + [1, 0, 2, 0, 6, 3, 0, 0, 0] * 333)


if __name__ == "__main__":
    unittest.main()
