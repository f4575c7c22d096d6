"""Promise 3: ops 00, 18, 1A, 30, 34 and 38 to 3F, and ops that are not there."""

import unittest

from tests.helper import EDGES, TOP, ask, branch, code, operate, put, run, signed, take, transfer

CONDITIONS = {
    0x38: lambda a: a % 2 == 0,
    0x39: lambda a: a == 0,
    0x3A: lambda a: a < 0,
    0x3B: lambda a: a <= 0,
    0x3C: lambda a: a % 2 == 1,
    0x3D: lambda a: a != 0,
    0x3E: lambda a: a >= 0,
    0x3F: lambda a: a > 0,
}
THERE = [0x00, 0x08, 0x09, 0x0A, 0x0B, 0x0C, 0x0D, 0x0E, 0x0F, 0x10, 0x11, 0x12, 0x13, 0x18, 0x1A, 0x1C]
THERE += list(range(0x28, 0x30)) + [0x30, 0x34] + list(range(0x38, 0x40))


class System(unittest.TestCase):
    def test_it_is_passed_and_counts(self):
        for word in (0, 1, 0x83, 0x3FFFFFF):
            self.assertEqual(ask(run(9, code(word)), take(32)), [[1, 5, 0], [0, 4]])

    def test_the_next_run_goes_on_behind(self):
        self.assertEqual(ask(run(9), run(9), run(9), take(32)), [[1, 5, 0]] * 3 + [[0, 12]])


class Barriers(unittest.TestCase):
    def test_nothing(self):
        for lowest in (0x0000, 0x0400, 0x4000, 0x4400):
            for upper in (0, 0x3FF):
                word = 0x18 << 26 | upper << 16 | lowest
                self.assertEqual(ask(run(1, code(word)), take(32)), [[1, 0, 0], [0, 4]], hex(word))

    def test_others_are_not_there(self):
        for lowest in (0x0001, 0x0200, 0x0401, 0x0800, 0x4001, 0x4800, 0x8000, 0xA000, 0xC000, 0xE000, 0xF000, 0xFFFF):
            word = 0x18 << 26 | lowest
            self.assertEqual(ask(run(1, code(word)), take(32)), [[0, 1, 0], [0, 0]], hex(word))


class NotThere(unittest.TestCase):
    def test_ops(self):
        for op in range(64):
            for more in (0, 0x3FFFFFF, 0x2A5A5A5):
                if op not in THERE:
                    found = ask(put(1, 5), run(3, code(op << 26 | more)), take(1), take(32))
                    self.assertEqual(found[1:], [[0, 1, 0], [0, 5], [0, 0]], hex(op))

    def test_ops_that_are_there_do_something(self):
        for op in THERE:
            # Function 39 is one that op 12 has; the ops with functions are looked at whole elsewhere.
            word = operate(op, 0x39, 1, 2, 3) if op == 0x12 else op << 26
            self.assertNotEqual(ask(run(1, code(word)))[0][1], 1, hex(op))


class Jumps(unittest.TestCase):
    def test_a_becomes_the_next_place(self):
        for place in (0, 64, 65532, 65536, TOP - 4, TOP // 2):
            for lowest in range(4):
                for hint in (0, 0x3FFF, 0xFFFF):
                    word = transfer(0x1A, 1, 2, hint)
                    found = ask(put(2, place + lowest), run(1, code(word)), take(1), take(2), take(32))
                    self.assertEqual(found[1:], [[1, 0, 0], [0, 4], [0, place + lowest], [0, place]])

    def test_b_as_it_was(self):
        found = ask(put(1, 103), run(1, code(transfer(0x1A, 1, 1))), take(1), take(32))
        self.assertEqual(found[1:], [[1, 0, 0], [0, 4], [0, 100]])

    def test_31(self):
        nothing = 0x18 << 26
        found = ask(run(2, code(nothing, transfer(0x1A, 31, 31))), take(31), take(32))
        self.assertEqual(found, [[2, 0, 0], [0, 0], [0, 0]])


class Branches(unittest.TestCase):
    def test_always(self):
        for op in (0x30, 0x34):
            for distance, place in ((0, 4), (1, 8), (-1, 0), (-2, TOP - 4), (0xFFFFF, 4 * 0x100000),
                                    (-0x100000, TOP + 4 - 0x400000)):
                found = ask(put(1, 9), run(1, code(branch(op, 1, distance))), take(1), take(32))
                self.assertEqual(found[1:], [[1, 0, 0], [0, 4], [0, place]])

    def test_31_stays(self):
        for op in (0x30, 0x34):
            self.assertEqual(ask(run(1, code(branch(op, 31, 3))), take(31), take(32)), [[1, 0, 0], [0, 0], [0, 16]])

    def test_conditions(self):
        for op, asked in CONDITIONS.items():
            for a in EDGES:
                for distance, place in ((0, 4), (3, 16), (-1, 0), (-0x100000, TOP + 4 - 0x400000)):
                    found = ask(put(1, a), run(1, code(branch(op, 1, distance))), take(1), take(32))
                    wanted = place if asked(signed(a, 64)) else 4
                    self.assertEqual(found[1:], [[1, 0, 0], [0, a], [0, wanted]], (hex(op), hex(a)))

    def test_31_as_a_condition(self):
        for op, asked in CONDITIONS.items():
            found = ask(run(1, code(branch(op, 31, 5))), take(32))
            self.assertEqual(found, [[1, 0, 0], [0, 24 if asked(0) else 4]], hex(op))


if __name__ == "__main__":
    unittest.main()
