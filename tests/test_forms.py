"""The calls need (1) and can (2)."""

import unittest

from helper import FORM, FULL, GREATEST, LEAST, MOST, Keys, ask, last
from sealedbox.bounds import turning_bound
from sealedbox.forms import Form


def changed(form, place, value):
    return form[:place] + [value] + form[place + 1:]


# It leaves room for every p; then of each of its numbers values that keep it a form, and values that don't.
ROOMY = [1, 32, 2, 1, 1, 1, 1, 0]
GOOD = (
    (1, 2, 3, 4), (8, 16, 32), (2, 4, 8), (1, 2, 3, 4),
    (1, 2, 7, 8), (1, 2, 15, 16), (1, 2, 7, 8), (0, 1, 126, 127),
)
WRONG = (
    (0, 5, GREATEST), (0, 1, 4, 7, 9, 12, 15, 17, 24, 31, 33, 64, GREATEST), (0, 1, 3, 5, 6, 7, 9, 16, GREATEST),
    (0, 5, GREATEST), (0, 9, GREATEST), (0, 17, GREATEST), (0, 9, GREATEST), (128, GREATEST),
)


class IsForm(unittest.TestCase):
    """What a form is, as need and can tell it."""

    def is_form(self, numbers):
        need, can = ask(("need", numbers), ("can", numbers))
        self.assertEqual(need == [-1], can == [-1], numbers)
        self.assertEqual(len(need), 1 if need[0] else 4)
        self.assertEqual(len(can), 1 if can[0] else 4)
        return need[0] == 0

    def test_each_numbers_least_and_greatest(self):
        for place, values in enumerate(GOOD):
            for value in values:
                self.assertTrue(self.is_form(changed(ROOMY, place, value)), (place, value))

    def test_each_number_out_of_its_range(self):
        for place, values in enumerate(WRONG):
            for value in values:
                self.assertFalse(self.is_form(changed(ROOMY, place, value)), (place, value))

    def test_twice_p_is_at_most_n(self):
        for size in (8, 16, 32):
            for p in (2, 4, 8):
                self.assertEqual(self.is_form([1, size, p, 1, 1, 1, 1, 0]), 2 * p <= size, (size, p))

    def test_changing_digits_fit_a_word(self):
        for digits in range(1, 17):
            for bits in range(1, 9):
                form = [1, 8, 2, 1, 1, digits, bits, 0]
                self.assertEqual(self.is_form(form), digits * bits <= 16, (digits, bits))

    def test_turning_digits_always_fit(self):
        for digits in range(1, 5):
            for bits in range(1, 9):
                self.assertTrue(self.is_form([1, 8, 2, digits, bits, 1, 1, 0]))

    def test_eight_numbers(self):
        for numbers in ([], FORM[:1], FORM[:7], FORM + [0], FORM + FORM, [0] * 5000):
            self.assertFalse(self.is_form(numbers))


class Need(unittest.TestCase):
    def test_least(self):
        self.assertEqual(last(("need", LEAST)), [0, 177, 320, 4])

    def test_ordinary(self):
        # 2 + 16 + 12 pairs of 144 + 64 rows of 5; 32 + 12 pairs of 256 + 64 rows of 6.
        self.assertEqual(last(("need", FORM)), [0, 2066, 3488, 6])

    def test_greatest(self):
        # 4 + 32 + 32 pairs of 288 + 64 rows of 9; 32 + 32 pairs of 512 + 64 rows of 10.
        self.assertEqual(last(("need", MOST)), [0, 9828, 17056, 10])
        self.assertEqual(last(("need", [4, 32, 8, 4, 8, 16, 1, 127])), [0, 13860, 21536, 10])

    def test_four_thousand_bytes(self):
        self.assertEqual(last(("need", FULL))[2], 4000)

    def test_what_keys_take_up(self):
        for form in (LEAST, FORM, FULL, [3, 8, 4, 2, 3, 5, 3, 9]):
            keys = Keys(1, form)
            self.assertEqual(last(("need", form)), [0, keys.need, len(keys.part()), len(keys.seal(0, 0))])


class Can(unittest.TestCase):
    def test_least(self):
        # v is 9 * 2^50; (v + 9 * 2^35) / 2^36 is 147460; N r is 8 * 2^14.
        self.assertEqual(last(("can", LEAST)), [0, 147460 + 131072, 16384, 4095])

    def test_ordinary(self):
        # v is 17 * 2^33 + 96 * 32 * 5; N r is 16 * 2^3; the noise of rows 16 * 4 * 4 * 5.
        self.assertEqual((2 * (17 * 2 ** 33 + 15360) + 17 * 2 ** 35) // 2 ** 36, 12)
        self.assertEqual(last(("can", FORM)), [0, 12 + 128 + 1280, 8192, 1023])

    def test_greatest(self):
        # v is 33 * 2^19 + 256 * 128 * 127; r is 0, as 2 digits of 8 bits are the whole word.
        self.assertEqual(last(("can", MOST)), [0, 16 + 32 * 2 * 128 * 127, 4096, -1])

    def test_rounded_down(self):
        # Half of N + 1 is left over by the words' rounding: 8 and a half is 8.
        self.assertEqual(last(("can", [1, 16, 2, 4, 8, 16, 1, 0])), [0, 8, 16384, 6143])

    def test_nothing_left_over(self):
        # 9 * 2^35 and 9 * 2^35 are 9 * 2^36 to the one.
        self.assertEqual(last(("can", [1, 8, 2, 2, 8, 16, 1, 0]))[1], 9)

    def test_noise_of_turning(self):
        # It's too small to be seen in the bound of any form, so v is looked at by itself.
        self.assertEqual(turning_bound(Form(FORM)), 17 * 2 ** 33 + 2 * 3 * 16 * 32 * 5)
        self.assertEqual(turning_bound(Form(MOST)), 33 * 2 ** 19 + 2 * 4 * 32 * 128 * 127)
        self.assertEqual(turning_bound(Form(LEAST)), 9 * 2 ** 50)

    def test_last_bit_that_changing_drops(self):
        kept = last(("can", [1, 8, 2, 4, 8, 16, 1, 0]))[1]
        self.assertEqual(last(("can", [1, 8, 2, 4, 8, 15, 1, 0]))[1], kept + 8)
        self.assertEqual(last(("can", [1, 8, 2, 4, 8, 7, 2, 0]))[1], kept + 16)

    def test_the_document_s_sum_for_many_forms(self):
        for n in (1, 2, 3, 4):
            for c, w in ((1, 1), (1, 8), (2, 5), (3, 8), (4, 1), (4, 8)):
                for c2, w2, noise in ((1, 1, 127), (3, 5, 64), (2, 8, 1), (16, 1, 90), (5, 3, 0)):
                    self.one_sum(n, 16, c, w, c2, w2, noise)

    def one_sum(self, n, size, c, w, c2, w2, noise):
        v = (size + 1) * 2 ** (51 - c * w) + 2 * c * size * 2 ** (w - 1) * noise
        r = 2 ** (15 - c2 * w2) if c2 * w2 < 16 else 0
        bound = (n * v + (size + 1) * 2 ** 35) // 2 ** 36 + size * r + size * c2 * 2 ** (w2 - 1) * noise
        self.assertEqual(last(("can", [n, size, 4, c, w, c2, w2, noise]))[1], bound)

    def test_step(self):
        for p, step in ((2, 16384), (4, 8192), (8, 4096)):
            self.assertEqual(last(("can", [1, 16, p, 1, 1, 1, 1, 0]))[2], step)

    def test_greatest_sure_bound(self):
        for n in (1, 2, 3, 4):
            for size in (8, 16, 32):
                for p in (2, 4, 8):
                    if 2 * p <= size:
                        sure = [x for x in range(32769) if x + (n + 1) * (16384 // size) < 16384 // p]
                        told = last(("can", [n, size, p, 1, 1, 1, 1, 0]))[3]
                        self.assertEqual(told, max(sure, default=-1), (n, size, p))


if __name__ == "__main__":
    unittest.main()
