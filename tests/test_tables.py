"""The call table (26), and the digits and polynomials that it leans on."""

import random
import unittest

from helper import (DEEP, DEEPS, FORM, GREATEST, LEAST, MOST, apart, ask, filled, greatest_sure, keys_of, looked_up,
                    octets, part_bytes, product, shifted, table_bound, words)
from sealedbox.digits import digits_of
from sealedbox.polynomials import product as ring_product
from sealedbox.polynomials import times_power

# Of every n, N, p and c; one digit and many of either sort; words taken apart whole and rounded.
FORMS = (LEAST, FORM, [2, 8, 2, 4, 8, 14, 1, 3], [2, 32, 8, 1, 3, 3, 5, 127], [3, 32, 2, 2, 1, 1, 8, 20],
         [4, 32, 2, 3, 7, 5, 1, 3], [2, 16, 2, 4, 1, 1, 2, 64], [3, 32, 4, 1, 1, 2, 8, 1]) + DEEPS
ZERO = [0, 0]


def tables(form):
    p = form[2]
    return ([0] * p, [2 * p - 1] * p, list(range(p)), list(range(2 * p - 1, p - 1, -1)), [1] + [0] * (p - 1))


def bare(form, turning=None, changing=None):
    """A working part's bytes: all 0 but for the numbers told by their places."""
    n, size, _, c, _, c2 = form[:6]
    pairs = [[0] * (2 * size) for _ in range(2 * n * c)]
    rows = [[0] * (n + 1) for _ in range(size * c2)]
    for (t, place), number in (turning or {}).items():
        pairs[t][place] = number
    for (t, place), number in (changing or {}).items():
        rows[t][place] = number
    return part_bytes(form, pairs, rows)


class Digits(unittest.TestCase):
    def test_written_out(self):
        for number, many, bits, digits in (
                (0x1234, 2, 4, [1, 2]), (0x127F, 2, 4, [1, 2]), (0x1280, 2, 4, [1, 3]), (0x7F80, 2, 4, [-8, 0]),
                (0xFFFF, 2, 4, [0, 0]), (0x0888, 4, 4, [1, -7, -7, -8]), (0xFFFF, 2, 8, [0, -1]),
                (0x7F7F, 2, 8, [127, 127]), (0x7F80, 2, 8, [-128, -128]), (0x8000, 1, 1, [-1]), (0x3FFF, 1, 1, [0]),
                (0x4000, 1, 1, [-1]), (0xC000, 1, 1, [0]), (1, 16, 1, [-1] * 16), (1, 15, 1, [-1] * 15),
                (0, 16, 1, [0] * 16),
                (0x0007, 5, 3, [0, 0, 0, 1, -4]), (0x0006, 5, 3, [0, 0, 0, 0, 3])):
            self.assertEqual(digits_of(number, 16, many, bits), digits, (number, many, bits))

    def test_they_make_the_rounded_number(self):
        luck = random.Random(3)
        for width, most in ((16, 16), (52, 32)):
            for many in range(1, 17):
                for bits in range(1, 9):
                    if many * bits <= most:
                        for number in [0, 1, 2 ** width - 1, 2 ** (width - 1)] + [luck.randrange(2 ** width)] * 9:
                            self.one(number, width, many, bits)

    def one(self, number, width, many, bits):
        digits = digits_of(number, width, many, bits)
        self.assertEqual(digits, apart(number, width, many, bits))
        made = sum(digit * 2 ** (width - bits * (place + 1)) for place, digit in enumerate(digits))
        off = (number - made + 2 ** (width - 1)) % 2 ** width - 2 ** (width - 1)
        self.assertLessEqual(abs(off), 2 ** (width - many * bits) // 2)
        self.assertTrue(all(-2 ** (bits - 1) <= digit < 2 ** (bits - 1) for digit in digits))


class Polynomials(unittest.TestCase):
    def test_powers_written_out(self):
        whole = 2 ** 52
        for power, turned in ((0, [1, 2, 3, 4]), (1, [whole - 4, 1, 2, 3]), (3, [whole - 2, whole - 3, whole - 4, 1]),
                              (4, [whole - 1, whole - 2, whole - 3, whole - 4]), (7, [2, 3, 4, whole - 1]),
                              (8, [1, 2, 3, 4])):
            self.assertEqual(times_power([1, 2, 3, 4], power), turned)

    def test_products(self):
        luck = random.Random(4)
        for size in (8, 16, 32):
            first = [luck.randrange(-128, 128) for _ in range(size)]
            second = [luck.randrange(2 ** 52) for _ in range(size)]
            self.assertEqual(ring_product(first, second), [x % 2 ** 52 for x in product(first, second)])
            for power in range(2 * size + 1):
                self.assertEqual(times_power(second, power), [x % 2 ** 52 for x in shifted(second, power)])


class BareParts(unittest.TestCase):
    """Working parts of nothing but zeros, so that each step is seen by itself."""

    def sent(self, octet_row, seal, g):
        """The words that come out."""
        told = ask(("take", 0, octet_row), ("read", 0, 0, octets(seal)), ("table", 0, 0, g), ("write", 0, 1))
        self.assertEqual(told[2], [0, 1])
        return words(told[3][1:])

    def test_the_table_s_polynomial(self):
        # N is 8 and p is 2: numbers 0 and 1 are g0's, 2 to 5 are g1's, 6 and 7 -g0's; from X^8 on minus these.
        form = [1, 8, 2, 1, 8, 1, 8, 0]
        half = [1, 1, 3, 3, 3, 3, -1, -1]
        for x, value in enumerate(half + [-value for value in half]):
            for b in (x * 4096 - 2048, x * 4096, x * 4096 + 2047):
                self.assertEqual(self.sent(bare(form), [5, b % 65536], [1, 3]), [0, value * 16384 % 65536], b)

    def test_the_table_s_polynomial_of_any_form(self):
        for n, size, p in ((2, 8, 2), (2, 16, 4), (1, 16, 2), (1, 32, 8), (3, 32, 4), (2, 32, 2)):
            form = [n, size, p, 1, 8, 1, 8, 0]
            g = [(5 * y + 3) % (2 * p) for y in range(p)]
            for x in range(2 * size):
                nearest = (2 * p * x + size) // (2 * size) % (2 * p)
                for b in (x * 32768 // size - 16384 // size, x * 32768 // size + 16384 // size - 1):
                    made = self.sent(bare(form), [9] * n + [b % 65536], g)
                    self.assertEqual(made, [0] * n + [looked_up(g, nearest) * 32768 // p])

    # Below, B begins as 2^50 times (1, 1, 0, 0, 0, 0, -1, -1), the word 3 * 4096 turns it by X^3 to 2^50 times
    # (0, 1, 1, 1, 1, 0, 0, 0), so V is 2^50 times (-1, 0, 1, 1, 1, 0, 1, 1). Its digits of 3 bits are twice this, 0, 0.
    SEAL = [3 * 4096, 0]
    TABLE = [1, 0]

    def test_each_pair_goes_with_its_digit(self):
        form = [1, 8, 2, 3, 3, 1, 8, 0]
        for t in range(6):
            made = self.sent(bare(form, {(t, 8): 2 ** 36}), self.SEAL, self.TABLE)
            self.assertEqual(made, [0, 16384 - 2 * (t == 3)], t)

    def test_lower_digits(self):
        # Of 3 digits of 1 bit, 2^50 is 1 at the second, which counts as -1, and so is the first; -2^50 is 0, -1, 0.
        form = [1, 8, 2, 3, 1, 1, 8, 0]
        for t, place, digit in ((3, 0, 0), (4, 0, -1), (5, 0, 0), (3, 6, -1), (4, 6, -1), (5, 6, 0)):
            turned = 8 if place == 0 else 8 + 8 - place
            made = self.sent(bare(form, {(t, turned): 2 ** 36}), self.SEAL, self.TABLE)
            self.assertEqual(made, [0, 16384 + (digit if place == 0 else -digit)], (t, place))

    def test_words_are_taken_out_and_changed(self):
        # A is 2^40 times twice V's numbers, or X^2 times this; 2^40 is 16 of a word's units.
        form = [1, 8, 2, 3, 3, 4, 4, 0]
        for power, taken in ((0, (-1, -1, -1, 0, -1, -1, -1, 0)), (2, (-1, 0, -1, -1, -1, 0, 1, 1))):
            for i in range(8):
                for k in range(4):
                    part = bare(form, {(3, power): 2 ** 40}, {(4 * i + k, 0): 1000, (4 * i + k, 1): 7})
                    digit = 2 * taken[i] * (k == 2)
                    made = self.sent(part, self.SEAL, self.TABLE)
                    self.assertEqual(made, [-1000 * digit % 65536, 16384 - 7 * digit], (power, i, k))

    # Of 2 bits each, V's highest digits are (-1, 0, 1, 1, 1, 0, 1, 1): they put A and B off by a pair's number.

    def test_last_word_rounded(self):
        form = [1, 8, 2, 3, 2, 1, 8, 0]
        half = 2 ** 35
        for number, word in ((half, 16384), (half + 1, 16383), (-half, 16385), (1 - half, 16384), (2 * half, 16383)):
            made = self.sent(bare(form, {(3, 8): number % 2 ** 52}), self.SEAL, self.TABLE)
            self.assertEqual(made, [0, word], number)

    def test_hiding_words_rounded(self):
        # A's number 0, and minus its number 7: both are minus the pair's number.
        form = [1, 8, 2, 3, 2, 2, 8, 0]
        half = 2 ** 35
        for number, word in ((half, 0), (half + 1, -1), (-half, 1), (1 - half, 0), (0, 0)):
            for row in (1, 3):
                part = bare(form, {(3, 0): number % 2 ** 52}, {(row, 0): 1000, (row, 1): 7})
                made = self.sent(part, self.SEAL, self.TABLE)
                self.assertEqual(made, [-1000 * word % 65536, 16384 - 7 * word], (number, row))


class Table(unittest.TestCase):
    def test_new_seals_through_tables(self):
        for form in FORMS:
            keys = keys_of(11, form)
            self.assertLessEqual(form[7], greatest_sure(form))
            for g in tables(form):
                for j in range(2 * form[2]) if form in (FORM, DEEP) else (0, 1, form[2], 2 * form[2] - 1):
                    told = ask(("key", 0, 11, form), ("seal", 0, j, 50 + j), ("table", 0, 0, g), ("write", 0, 1),
                               ("bound", 0, 1), ("off", 0, 1, looked_up(g, j)), ("open", 0, 1), ("uses", 0))
                    made = keys.through(words(keys.seal(j, 50 + j)), g)
                    self.assertEqual(told[2:4], [[0, 1], [0] + octets(made)], (form, g, j))
                    self.assertEqual(told[4], [0, table_bound(form)])
                    self.comes_out(form, g, j, told)
                    self.assertEqual(told[7], [0, 1])

    def comes_out(self, form, g, j, told):
        """Off by no more than told, and so opened to what the table has."""
        if table_bound(form) < 32768:
            self.assertLessEqual(abs(told[5][1]), table_bound(form))
        if table_bound(form) < 16384 // form[2]:
            self.assertEqual(told[6], [0, looked_up(g, j)])

    def test_any_words(self):
        luck = random.Random(5)
        for form in FORMS:
            for _ in range(4):
                seal = [luck.choice((0, 1, 65535, 32768, luck.randrange(65536))) for _ in range(form[0] + 1)]
                g = [luck.randrange(2 * form[2]) for _ in range(form[2])]
                told = ask(("key", 0, 21, form), ("read", 0, 0, octets(seal)), ("table", 0, 0, g), ("write", 0, 1))
                self.assertEqual(told[2:], [[0, 1], [0] + octets(keys_of(21, form).through(seal, g))], (form, seal, g))

    def test_bounds(self):
        told = ask(("key", 0, 11, DEEP), ("seal", 0, 1, 1), ("table", 0, 0, [0, 1, 2, 3]), ("bound", 0, 1),
                   ("key", 1, 11, LEAST), ("seal", 1, 1, 1), ("table", 1, 0, [0, 1]), ("bound", 1, 1))
        # 33 of turning and taking out, and 32 * 8 * 2 of changing; that of LEAST is 278532, cut.
        self.assertEqual(told[2:4] + told[6:], [[0, 1], [0, 545], [0, 1], [0, 32768]])

    def test_one_after_the_other(self):
        g = [3, 0, 5, 6]
        told = ask(("key", 0, 11, DEEP), ("seal", 0, 2, 1), *[("table", 0, h, g) for h in range(12)],
                   *[("open", 0, h) for h in range(13)], *[("write", 0, h) for h in range(13)], ("uses", 0))
        j, seal = 2, words(keys_of(11, DEEP).seal(2, 1))
        for h in range(13):
            self.assertEqual([told[14 + h], told[27 + h]], [[0, j], [0] + octets(seal)])
            j, seal = looked_up(g, j), keys_of(11, DEEP).through(seal, g)
        self.assertEqual(told[40], [0, 12])

    def test_as_far_off_as_is_sure(self):
        # Words that lie just in the middle of two of the ring's put it off the most.
        for form in (DEEP, FORM, [2, 8, 2, 4, 8, 14, 1, 3], DEEPS[3]):
            n, size, p = form[:3]
            keys, sure, middle = keys_of(11, form), greatest_sure(form), 16384 // size
            g = [(3 * y + 1) % (2 * p) for y in range(p)]
            for j in range(2 * p):
                calls = [("key", 0, 11, form)]
                for off in (-sure, sure):
                    for word in (middle, middle - 1):
                        hidden = sum(keys.s) * word
                        seal = [word] * n + [(hidden + j * 32768 // p + off) % 65536]
                        calls += [("read", 0, sure, octets(seal)), ("table", 0, (len(calls) - 1) // 3 * 2, g),
                                  ("off", 0, (len(calls) - 1) // 3 * 2 + 1, looked_up(g, j))]
                told = ask(*calls)
                self.assertEqual([answer[0] for answer in told], [0] * 13)
                self.assertTrue(all(abs(answer[1]) <= table_bound(form) for answer in told[3::3]), (form, j))

    def test_without_secrets(self):
        calls = [("seal", 0, 2, 9), ("table", 0, 0, [1, 2, 3, 4]), ("hand", 1, 0), ("send", 0, 0, 1),
                 ("table", 1, 0, [1, 2, 3, 4]), ("write", 0, 1), ("write", 1, 1), ("uses", 0), ("uses", 1)]
        told = ask(("key", 0, 11, DEEP), *calls)
        self.assertEqual(told[5], [0, 1])
        self.assertEqual(told[6], told[7])
        self.assertEqual(told[8:], [[0, 1], [0, 1]])

    def test_put_at_the_least_free_number(self):
        told = ask(("key", 0, 11, FORM), ("seal", 0, 1, 1), *filled(0, 31), ("drop", 0, 5),
                   ("table", 0, 0, [1, 1, 1, 1]), ("bound", 0, 5), ("count", 0))
        self.assertEqual(told[-3:], [[0, 5], [0, table_bound(FORM)], [0, 32]])

    def test_how_many_numbers(self):
        for form in (LEAST, FORM, [1, 32, 8, 1, 8, 2, 8, 0]):
            for many in range(20):
                told = ask(("key", 0, 11, form), ("seal", 0, 1, 1), ("table", 0, 0, [0] * many), ("count", 0),
                           ("uses", 0))
                self.assertEqual(told[2:], [[0, 1], [0, 2], [0, 1]] if many == form[2] else [[-2], [0, 1], [0, 0]])

    def test_numbers_below_twice_p(self):
        for form in (LEAST, FORM, [1, 32, 8, 1, 8, 2, 8, 0]):
            p = form[2]
            for place in range(p):
                for wrong in (2 * p, 2 * p + 1, GREATEST):
                    g = [2 * p - 1] * p
                    g[place] = wrong
                    told = ask(("key", 0, 11, form), ("seal", 0, 1, 1), ("table", 0, 0, g), ("count", 0), ("uses", 0))
                    self.assertEqual(told[2:], [[-1], [0, 1], [0, 0]])

    def test_just_sure_and_just_not(self):
        for form in (LEAST, FORM, DEEP):
            sure = greatest_sure(form)
            seal = [0] * (2 * form[0] + 2)
            told = ask(("key", 0, 11, form), ("read", 0, sure, seal), ("read", 0, sure + 1, seal),
                       ("read", 0, 32768, seal), ("table", 0, 1, ZERO * (form[2] // 2)),
                       ("table", 0, 2, ZERO * (form[2] // 2)), ("uses", 0), ("count", 0),
                       ("table", 0, 0, ZERO * (form[2] // 2)), ("uses", 0))
            self.assertEqual(told[4:], [[-8], [-8], [0, 0], [0, 3], [0, 3], [0, 1]])

    def test_no_bound_is_sure(self):
        told = ask(("key", 0, 11, MOST[:7] + [0]), ("seal", 0, 1, 1), ("table", 0, 0, [0] * 8), ("uses", 0))
        self.assertEqual(told[2:], [[-8], [0, 0]])


if __name__ == "__main__":
    unittest.main()
