"""Promise 3: each instruction of ops 10, 11, 12, 13 and 1C against a second telling of the same."""

import unittest

from tests.helper import EDGES, TOP, ask, code, eight, operate, operate_bits, put, run, signed, take, whole

SMALL = [0, 1, 2, 3, 4, 5, 6, 7, 8, 31, 32, 33, 62, 63, 64, 65, 255]
STAYS = 0x1122334455667788


def long(number):
    return signed(number, 32) % TOP


def quad(number):
    return number % TOP


def checked(bits, work):
    def result(a, b):
        exact = work(signed(a, bits), signed(b, bits))
        fits = -2 ** (bits - 1) <= exact < 2 ** (bits - 1)
        return signed(exact, bits) % TOP, 0 if fits else 4
    return result


def sums(function, number):
    long_function, quad_function = function
    return {long_function: lambda a, b: long(number(a, b)), quad_function: lambda a, b: quad(number(a, b))}


def truth(asked):
    return lambda a, b: 1 if asked(a, b) else 0


def turned(b):
    return TOP - 1 - b


def moved(asked):
    return lambda a, b: b if asked(signed(a, 64)) else STAYS


def zapped(wanted):
    return lambda a, b: whole([byte if b >> i & 1 == wanted else 0 for i, byte in enumerate(eight(a))])


def extracted_high(size):
    def result(a, b):
        at = b % 8
        parts = eight(a) if at == 0 else bytes(8 - at) + eight(a)
        return whole(parts[:size])
    return result


def masked(size, past):
    def result(a, b):
        at = b % 8
        return whole([0 if at <= i + past < at + size else byte for i, byte in enumerate(eight(a))])
    return result


def by_lanes(size, with_sign, choose):
    def cut(number):
        parts = eight(number)
        return [int.from_bytes(parts[i:i + size], "little", signed=with_sign) for i in range(0, 8, size)]

    def result(a, b):
        chosen = [choose(x, y) for x, y in zip(cut(a), cut(b))]
        return whole(b"".join([n.to_bytes(size, "little", signed=with_sign) for n in chosen]))
    return result


def zeros_from_top(b):
    return len(f"{b:064b}") - len(f"{b:064b}".lstrip("0"))


def zeros_from_bottom(b):
    return len(f"{b:064b}") - len(f"{b:064b}".rstrip("0"))


OP_10 = {
    **sums((0x00, 0x20), lambda a, b: a + b),
    **sums((0x02, 0x22), lambda a, b: 4 * a + b),
    **sums((0x12, 0x32), lambda a, b: 8 * a + b),
    **sums((0x09, 0x29), lambda a, b: a - b),
    **sums((0x0B, 0x2B), lambda a, b: 4 * a - b),
    **sums((0x1B, 0x3B), lambda a, b: 8 * a - b),
    0x40: checked(32, lambda a, b: a + b),
    0x49: checked(32, lambda a, b: a - b),
    0x60: checked(64, lambda a, b: a + b),
    0x69: checked(64, lambda a, b: a - b),
    0x0F: lambda a, b: sum(2 ** i for i in range(8) if eight(a)[i] >= eight(b)[i]),
    0x1D: truth(lambda a, b: a < b),
    0x3D: truth(lambda a, b: a <= b),
    0x2D: truth(lambda a, b: a == b),
    0x4D: truth(lambda a, b: signed(a, 64) < signed(b, 64)),
    0x6D: truth(lambda a, b: signed(a, 64) <= signed(b, 64)),
}

OP_11 = {
    0x00: lambda a, b: a & b,
    0x20: lambda a, b: a | b,
    0x40: lambda a, b: a ^ b,
    0x08: lambda a, b: a & turned(b),
    0x28: lambda a, b: a | turned(b),
    0x48: lambda a, b: a ^ turned(b),
    0x14: moved(lambda a: a % 2 == 1),
    0x16: moved(lambda a: a % 2 == 0),
    0x24: moved(lambda a: a == 0),
    0x26: moved(lambda a: a != 0),
    0x44: moved(lambda a: a < 0),
    0x46: moved(lambda a: a >= 0),
    0x64: moved(lambda a: a <= 0),
    0x66: moved(lambda a: a > 0),
}

OP_12 = {
    0x39: lambda a, b: a * 2 ** (b % 64) % TOP,
    0x34: lambda a, b: a // 2 ** (b % 64),
    0x3C: lambda a, b: signed(a, 64) // 2 ** (b % 64) % TOP,
    0x30: zapped(0),
    0x31: zapped(1),
    **{function: lambda a, b, size=size: whole(eight(a)[b % 8:b % 8 + size])
       for function, size in ((0x06, 1), (0x16, 2), (0x26, 4), (0x36, 8))},
    **{function: extracted_high(size) for function, size in ((0x5A, 2), (0x6A, 4), (0x7A, 8))},
    **{function: lambda a, b, size=size: whole((bytes(b % 8) + eight(a)[:size])[:8])
       for function, size in ((0x0B, 1), (0x1B, 2), (0x2B, 4), (0x3B, 8))},
    **{function: lambda a, b, size=size: whole((bytes(b % 8) + eight(a)[:size])[8:])
       for function, size in ((0x57, 2), (0x67, 4), (0x77, 8))},
    **{function: masked(size, 0) for function, size in ((0x02, 1), (0x12, 2), (0x22, 4), (0x32, 8))},
    **{function: masked(size, 8) for function, size in ((0x52, 2), (0x62, 4), (0x72, 8))},
}

OP_13 = {
    0x00: lambda a, b: long(a * b),
    0x20: lambda a, b: quad(a * b),
    0x30: lambda a, b: a * b // TOP,
    0x40: checked(32, lambda a, b: a * b),
    0x60: checked(64, lambda a, b: a * b),
}

OP_1C = {
    0x00: lambda a, b: signed(b, 8) % TOP,
    0x01: lambda a, b: signed(b, 16) % TOP,
    0x30: lambda a, b: f"{b:b}".count("1"),
    0x32: lambda a, b: zeros_from_top(b),
    0x33: lambda a, b: zeros_from_bottom(b),
    0x31: lambda a, b: sum(abs(x - y) for x, y in zip(eight(a), eight(b))),
    0x34: lambda a, b: whole(b"".join(bytes([byte, 0]) for byte in eight(b)[:4])),
    0x35: lambda a, b: whole(b"".join(bytes([byte, 0, 0, 0]) for byte in eight(b)[:2])),
    0x36: lambda a, b: whole(eight(b)[::2]),
    0x37: lambda a, b: whole(eight(b)[::4]),
    0x38: by_lanes(1, True, min),
    0x39: by_lanes(2, True, min),
    0x3A: by_lanes(1, False, min),
    0x3B: by_lanes(2, False, min),
    0x3C: by_lanes(1, False, max),
    0x3D: by_lanes(2, False, max),
    0x3E: by_lanes(1, True, max),
    0x3F: by_lanes(2, True, max),
}

OPS = {0x10: OP_10, 0x11: OP_11, 0x12: OP_12, 0x13: OP_13, 0x1C: OP_1C}


def in_parts(things, size):
    return [things[at:at + size] for at in range(0, len(things), size)]


def calls_of(case):
    word, a, b = case
    return [put(1, a), put(2, b), put(3, STAYS), put(32, 0), run(1, code(word)), take(3), take(32)]


class Operates(unittest.TestCase):
    def check(self, cases, expected):
        """Each case is a word, a and b; each thing expected is the result and why."""
        calls_each = 7
        found = []
        for part in in_parts(cases, 140):
            found.extend(ask(*[call for case in part for call in calls_of(case)]))
        for case, told, answer in zip(cases, expected, in_parts(found, calls_each), strict=True):
            result, why = told
            wanted = [[0], [0], [0], [0], [1, why, 0], [0, result], [0, 4]]
            self.assertEqual(answer, wanted, [hex(number) for number in case])

    def expected(self, work, pairs):
        results = [work(a, b) for a, b in pairs]
        return [result if isinstance(result, tuple) else (result, 0) for result in results]

    def check_op(self, op):
        pairs = [(a, b) for a in EDGES for b in EDGES + SMALL]
        for function, work in OPS[op].items():
            with self.subTest(op=hex(op), function=hex(function)):
                word = operate(op, function, 1, 2, 3)
                self.check([(word, a, b) for a, b in pairs], self.expected(work, pairs))

    def test_op_10(self):
        self.check_op(0x10)

    def test_op_11(self):
        self.check_op(0x11)

    def test_op_12(self):
        self.check_op(0x12)

    def test_op_13(self):
        self.check_op(0x13)

    def test_op_1c(self):
        self.check_op(0x1C)

    def test_second_operand_out_of_bits(self):
        pairs = [(a, b) for a in (0, 5, 0x80, 0xFEDCBA9876543210) for b in (0, 1, 7, 8, 63, 64, 127, 128, 255)]
        for op, functions in OPS.items():
            for function, work in functions.items():
                with self.subTest(op=hex(op), function=hex(function)):
                    # b's number is another one, so that it would show.
                    cases = [(operate_bits(op, function, 1, b, 3), a, b ^ 0x5A5A) for a, b in pairs]
                    self.check(cases, self.expected(work, pairs))

    def test_bits_15_to_13_say_nothing_beside_a_number(self):
        for more in range(8):
            word = operate(0x10, 0x20, 1, 2, 3) | more << 13
            self.check([(word, 30, 12)], [(42, 0)])

    def test_function_numbers_that_are_not_there(self):
        for op, functions in OPS.items():
            missing = [function for function in range(128) if function not in functions]
            words = [operate(op, function, 1, 2, 3) for function in missing]
            words += [operate_bits(op, function, 1, 2, 3) for function in missing]
            for part in in_parts(words, 140):
                found = ask(*[call for word in part for call in calls_of((word, 1, 2))])
                for word, answer in zip(part, in_parts(found, 7), strict=True):
                    self.assertEqual(answer[4:], [[0, 1, 0], [0, STAYS], [0, 0]], hex(word))


class Written(unittest.TestCase):
    """Results written out, so that they don't hang on the second telling."""

    def result(self, op, function, a, b):
        found = ask(*calls_of((operate(op, function, 1, 2, 3), a, b)))
        return found[4][1], found[5][1]

    def test_results(self):
        for op, function, a, b, why, result in (
            (0x10, 0x00, 0x7FFFFFFF, 1, 0, 0xFFFFFFFF80000000),
            (0x10, 0x40, 0x7FFFFFFF, 1, 4, 0xFFFFFFFF80000000),
            (0x10, 0x40, 0x7FFFFFFF, 0xFFFFFFFFFFFFFFFF, 0, 0x7FFFFFFE),
            (0x10, 0x40, 0x100000001, 0x100000002, 0, 3),
            (0x10, 0x60, 0x7FFFFFFFFFFFFFFF, 1, 4, 0x8000000000000000),
            (0x10, 0x60, 0xFFFFFFFFFFFFFFFF, 1, 0, 0),
            (0x10, 0x69, 0x8000000000000000, 1, 4, 0x7FFFFFFFFFFFFFFF),
            (0x10, 0x49, 0, 0x80000000, 4, 0xFFFFFFFF80000000),
            (0x10, 0x22, 0x4000000000000000, 5, 0, 5),
            (0x10, 0x3B, 1, 9, 0, 0xFFFFFFFFFFFFFFFF),
            (0x10, 0x0F, 0x0102030405060708, 0x0801030405060708, 0, 0x7F),
            (0x10, 0x4D, 0xFFFFFFFFFFFFFFFF, 0, 0, 1),
            (0x10, 0x1D, 0xFFFFFFFFFFFFFFFF, 0, 0, 0),
            (0x11, 0x48, 0xF0, 0xF0, 0, 0xFFFFFFFFFFFFFFFF),
            (0x11, 0x66, 0, 9, 0, STAYS),
            (0x11, 0x64, 0, 9, 0, 9),
            (0x12, 0x39, 1, 63, 0, 0x8000000000000000),
            (0x12, 0x39, 1, 64, 0, 1),
            (0x12, 0x3C, 0x8000000000000000, 63, 0, 0xFFFFFFFFFFFFFFFF),
            (0x12, 0x5A, 0x0123456789ABCDEF, 0, 0, 0xCDEF),
            (0x12, 0x5A, 0x0123456789ABCDEF, 7, 0, 0xEF00),
            (0x12, 0x7A, 0x0123456789ABCDEF, 7, 0, 0x23456789ABCDEF00),
            (0x12, 0x36, 0x0123456789ABCDEF, 7, 0, 0x01),
            (0x12, 0x57, 0x0123456789ABCDEF, 7, 0, 0xCD),
            (0x12, 0x77, 0x0123456789ABCDEF, 0, 0, 0),
            (0x12, 0x52, 0xFFFFFFFFFFFFFFFF, 7, 0, 0xFFFFFFFFFFFFFF00),
            (0x12, 0x12, 0xFFFFFFFFFFFFFFFF, 7, 0, 0x00FFFFFFFFFFFFFF),
            (0x12, 0x30, 0x0123456789ABCDEF, 0x101, 0, 0x0123456789ABCD00),
            (0x13, 0x30, 0xFFFFFFFFFFFFFFFF, 0xFFFFFFFFFFFFFFFF, 0, 0xFFFFFFFFFFFFFFFE),
            (0x13, 0x40, 0x80000000, 0xFFFFFFFF, 4, 0xFFFFFFFF80000000),
            (0x13, 0x60, 0xFFFFFFFFFFFFFFFF, 0xFFFFFFFFFFFFFFFF, 0, 1),
            (0x1C, 0x00, 0, 0x80, 0, 0xFFFFFFFFFFFFFF80),
            (0x1C, 0x30, 0, 0xFFFFFFFFFFFFFFFF, 0, 64),
            (0x1C, 0x32, 0, 0, 0, 64),
            (0x1C, 0x33, 0, 0, 0, 64),
            (0x1C, 0x33, 0, 0x8000000000000000, 0, 63),
            (0x1C, 0x31, 0xFF00FF00FF00FF00, 0x00FF00FF00FF00FF, 0, 2040),
            (0x1C, 0x34, 0, 0x99887766F5E4D3C2, 0, 0x00F500E400D300C2),
            (0x1C, 0x35, 0, 0x99887766F5E4D3C2, 0, 0x000000D3000000C2),
            (0x1C, 0x36, 0, 0x0123456789ABCDEF, 0, 0x2367ABEF),
            (0x1C, 0x37, 0, 0x0123456789ABCDEF, 0, 0x67EF),
            (0x1C, 0x38, 0x80FF7F0001020304, 0x0000000000000004, 0, 0x80FF000000000004),
            (0x1C, 0x3D, 0x8000000100020003, 0x7FFF000200020001, 0, 0x8000000200020003),
        ):
            with self.subTest(op=hex(op), function=hex(function), a=hex(a), b=hex(b)):
                self.assertEqual(self.result(op, function, a, b), (why, result))


class Number31(unittest.TestCase):
    def test_as_a_source_it_is_zero(self):
        found = ask(put(1, 9), put(31, 5), run(2, code(operate(0x10, 0x20, 31, 1, 2), operate(0x10, 0x29, 1, 31, 3))),
                    take(2), take(3))
        self.assertEqual(found[2:], [[2, 0, 0], [0, 9], [0, 9]])

    def test_as_a_target_it_stays_zero(self):
        for op, functions in OPS.items():
            for function in functions:
                found = ask(put(1, 2), put(2, 3), run(1, code(operate(op, function, 1, 2, 31))), take(31), take(32))
                self.assertEqual(found[2:], [[1, 0, 0], [0, 0], [0, 4]], (hex(op), hex(function)))

    def test_a_number_too_great_still_stops(self):
        word = operate(0x10, 0x60, 1, 1, 31)
        found = ask(put(1, TOP // 2), run(5, code(word, word)), take(31), take(32))
        self.assertEqual(found[1:], [[1, 4, 0], [0, 0], [0, 4]])

    def test_source_and_target_may_be_one(self):
        found = ask(put(1, 9), run(1, code(operate(0x13, 0x20, 1, 1, 1))), take(1))
        self.assertEqual(found[1:], [[1, 0, 0], [0, 81]])


if __name__ == "__main__":
    unittest.main()
