"""The calls drop (18), count (19), add (20), sub (21), times (22), plus (23), mix (24) and sure (25)."""

import unittest

from helper import (DEEP, DEEPS, FORM, FULL, GREATEST, LEAST, MOST, ask, filled, greatest_sure, keys_of, last,
                    looks, octets, summed, words)

FORMS = (LEAST, FORM, FULL, MOST) + DEEPS
NUMBERS = (3, 1, 2, 0)
SEEDS = (40, 41, 42, 43)
LEAST_C = -2147483648
GREATEST_C = 2147483647


def begun(form):
    """Calls that begin box 0 and put seals of NUMBERS there."""
    return [("key", 0, 11, form)] + [("seal", 0, j, seed) for j, seed in zip(NUMBERS, SEEDS)]


def sealed(form):
    """The same seals' words."""
    return [words(keys_of(11, form).seal(j, seed)) for j, seed in zip(NUMBERS, SEEDS)]


def bounded(*bounds):
    """Calls that begin box 0 and read seals with these bounds."""
    return [("key", 0, 11, FORM)] + [("read", 0, bound, [7, 0, 9, 0, h, 0]) for h, bound in enumerate(bounds)]


class Sums(unittest.TestCase):
    """Each made seal's words, its bound, what it opens to and what it's off by."""

    def check(self, form, call, factors, moved=0):
        """The call, on the first seals, makes the seals times the factors, b moved by so many steps."""
        keys, whole, step = keys_of(11, form), 2 * form[2], 32768 // form[2]
        told = ask(*begun(form), call, ("write", 0, 4), ("bound", 0, 4), ("open", 0, 4), ("off", 0, 4, 0), ("count", 0))
        expected = summed(sealed(form), factors)
        expected[-1] = (expected[-1] + moved * step) % 65536
        bound = min(32768, form[7] * sum(map(abs, factors)))
        self.assertEqual(told[5:8], [[0, 4], [0] + octets(expected), [0, bound]], (form, call))
        number = (sum(j * factor for j, factor in zip(NUMBERS, factors)) + moved) % whole
        if bound < step // 2:
            self.assertEqual(told[8], [0, number])
        self.assertEqual(told[9], [0, keys.off(expected, 0)])
        if bound < 32768:
            self.assertLessEqual(abs(keys.off(expected, number)), bound)
        self.assertEqual(told[10], [0, 5])

    def test_add(self):
        for form in FORMS:
            self.check(form, ("add", 0, 0, 1), (1, 1))
            self.check(form, ("add", 0, 2, 1), (0, 1, 1))
            self.check(form, ("add", 0, 0, 0), (2,))

    def test_sub(self):
        for form in FORMS:
            self.check(form, ("sub", 0, 0, 1), (1, -1))
            self.check(form, ("sub", 0, 1, 0), (-1, 1))

    def test_times(self):
        for form in FORMS:
            for c in (-128, -127, -2, -1, 0, 1, 2, 5, 126, 127):
                self.check(form, ("times", 0, 0, c), (c,))

    def test_plus(self):
        for form in FORMS:
            for j in range(2 * form[2]):
                self.check(form, ("plus", 0, 0, j), (1,), j)

    def test_mix_of_one_row(self):
        for form in FORMS:
            self.check(form, ("mix", 0, [0], [-3]), (-3,))
            self.check(form, ("mix", 0, [0, 1, 2, 3], [1, -2, 3, -4]), (1, -2, 3, -4))
            self.check(form, ("mix", 0, [3, 1, 0], [127, -128, 5]), (5, -128, 0, 127))

    def test_sub_from_itself_keeps_both_bounds(self):
        told = ask(*begun(FORM), ("sub", 0, 0, 0), ("write", 0, 4), ("bound", 0, 4))
        self.assertEqual(told[5:], [[0, 4], [0] + [0] * 6, [0, 10]])

    def test_the_same_seal_again(self):
        told = ask(*begun(FORM), ("mix", 0, [1, 1, 0, 1], [2, 3, 0, -1]), ("write", 0, 4), ("bound", 0, 4),
                   ("open", 0, 4))
        self.assertEqual(told[5:], [[0, 4], [0] + octets(summed(sealed(FORM), (0, 4))), [0, 30], [0, 4]])

    def test_words_written_out(self):
        told = ask(("key", 0, 1, LEAST), ("read", 0, 0, [255, 255, 1, 128]), ("read", 0, 0, [2, 0, 0, 128]),
                   ("add", 0, 0, 1), ("sub", 0, 0, 1), ("sub", 0, 1, 0), ("times", 0, 0, -2), ("plus", 0, 0, 2),
                   ("plus", 0, 0, 0), ("times", 0, 1, 0), *[("write", 0, h) for h in range(2, 9)])
        self.assertEqual(told[10:], [[0, 1, 0, 1, 0], [0, 253, 255, 1, 0], [0, 3, 0, 255, 255], [0, 2, 0, 254, 255],
                                     [0, 255, 255, 1, 0], [0, 255, 255, 1, 128], [0, 0, 0, 0, 0]])

    def test_seals_stay_as_they_were(self):
        before = ask(*begun(FORM), *looks(0, 4))[5:]
        told = ask(*begun(FORM), ("add", 0, 0, 1), ("sub", 0, 2, 3), ("times", 0, 0, 9), ("plus", 0, 1, 3),
                   ("mix", 0, [0, 1], [1, 2, 3, 4]), ("sure", 0, 0), *looks(0, 4))
        self.assertEqual(told[11:12] + told[13:], before[:1] + before[2:])


class Bounds(unittest.TestCase):
    """Bounds of sums, 32768 at most."""

    def test_bounds_are_added(self):
        told = ask(*bounded(100, 3000, 0), ("add", 0, 0, 1), ("sub", 0, 0, 1), ("times", 0, 0, -7), ("plus", 0, 1, 5),
                   ("mix", 0, [0, 1, 2], [2, -3, 100, 0, 0, 127, -1, 0, 1]), *[("bound", 0, h) for h in range(3, 10)])
        self.assertEqual(told[8], [0, 7, 8, 9])
        self.assertEqual(told[9:], [[0, x] for x in (3100, 3100, 700, 3000, 9200, 0, 100)])

    def test_32768_at_most(self):
        for one, other in ((16383, 16384), (16384, 16384), (16385, 16384), (32767, 0), (32767, 1), (32767, 2),
                           (32768, 0), (32768, 32768)):
            told = ask(*bounded(one, other), ("add", 0, 0, 1), ("sub", 0, 0, 1), ("mix", 0, [0, 1], [1, -1]),
                       ("bound", 0, 2), ("bound", 0, 3), ("bound", 0, 4), ("plus", 0, 0, 1), ("bound", 0, 5))
            self.assertEqual(told[6:9], [[0, min(32768, one + other)]] * 3)
            self.assertEqual(told[10], [0, one])

    def test_times_at_most(self):
        for bound, c, expected in ((256, 127, 32512), (256, -127, 32512), (256, -128, 32768), (257, -128, 32768),
                                   (258, 127, 32766), (259, 127, 32768), (32768, 1, 32768), (32768, -1, 32768),
                                   (32768, 0, 0), (32768, 127, 32768)):
            self.assertEqual(last(*bounded(bound), ("times", 0, 0, c), ("bound", 0, 1)), [0, expected])

    def test_cut_once_the_sum_is_made(self):
        self.assertEqual(last(*bounded(32768, 32768), ("mix", 0, [0, 1], [127, 127]), ("bound", 0, 2)), [0, 32768])
        self.assertEqual(last(*bounded(32768, 5), ("mix", 0, [0, 1], [0, 3]), ("bound", 0, 2)), [0, 15])


class Times(unittest.TestCase):
    def test_numbers_out_of_range(self):
        for c in (-129, -130, 128, 129, 255, LEAST_C, GREATEST_C):
            told = ask(*begun(FORM), ("times", 0, 0, c), ("count", 0))
            self.assertEqual(told[5:], [[-1], [0, 4]], c)

    def test_number_ahead_of_seal_ahead_of_room(self):
        told = ask(*begun(FORM), *filled(0, 28), ("times", 0, 32, 128), ("times", 0, 0, -129), ("times", 0, 32, 127),
                   ("times", 0, 0, -128), ("drop", 0, 9), ("times", 0, 0, -128))
        self.assertEqual(told[-6:], [[-1], [-1], [-5], [-3], [0], [0, 9]])


class Plus(unittest.TestCase):
    def test_number_below_twice_p(self):
        for form in FORMS:
            whole = 2 * form[2]
            told = ask(*begun(form), ("plus", 0, 0, whole - 1), ("plus", 0, 0, whole), ("plus", 0, 0, GREATEST),
                       ("count", 0))
            self.assertEqual(told[5:], [[0, 4], [-1], [-1], [0, 5]])

    def test_number_ahead_of_seal_ahead_of_room(self):
        told = ask(*begun(FORM), *filled(0, 28), ("plus", 0, 32, 8), ("plus", 0, 0, 8), ("plus", 0, 32, 7),
                   ("plus", 0, 0, 7), ("drop", 0, 9), ("plus", 0, 0, 7))
        self.assertEqual(told[-6:], [[-1], [-1], [-5], [-3], [0], [0, 9]])


class AddAndSub(unittest.TestCase):
    def test_either_seal_missing(self):
        for name in ("add", "sub"):
            for h, i in ((4, 0), (0, 4), (4, 4), (31, 0), (0, 32), (GREATEST, GREATEST)):
                self.assertEqual(ask(*begun(FORM), (name, 0, h, i), ("count", 0))[5:], [[-5], [0, 4]])

    def test_seal_ahead_of_room(self):
        for name in ("add", "sub"):
            told = ask(*begun(FORM), *filled(0, 28), (name, 0, 0, 32), (name, 0, 32, 0), (name, 0, 0, 1),
                       ("drop", 0, 9), (name, 0, 0, 1), (name, 0, 0, 1))
            self.assertEqual(told[-6:], [[-5], [-5], [-3], [0], [0, 9], [-3]])


class Mix(unittest.TestCase):
    def mixed(self, seals, numbers):
        """What mix answers, after looking that a refused one puts nothing."""
        told = ask(*begun(FORM), ("mix", 0, seals, numbers), ("count", 0))
        self.assertEqual(told[6], [0, 4 + len(told[5]) - 1])
        return told[5]

    def test_rows_one_after_the_other(self):
        rows = ((1, 2, 3), (0, -1, 0), (127, -128, 1), (0, 0, 0), (5, 5, 5))
        told = ask(*begun(FORM), ("mix", 0, [2, 0, 3], [x for row in rows for x in row]),
                   *[("write", 0, h) for h in range(4, 9)], *[("bound", 0, h) for h in range(4, 9)])
        self.assertEqual(told[5], [0, 4, 5, 6, 7, 8])
        seals = sealed(FORM)
        for row, h in zip(rows, range(5)):
            self.assertEqual(told[6 + h], [0] + octets(summed([seals[2], seals[0], seals[3]], row)))
            self.assertEqual(told[11 + h], [0, 5 * sum(map(abs, row))])

    def test_eight_rows_of_eight(self):
        rows = [[(7 * x + 5 * y) % 256 - 128 for x in range(8)] for y in range(8)]
        told = ask(*begun(FORM), ("mix", 0, [0, 1, 2, 3, 3, 2, 1, 0], sum(rows, [])),
                   *[("write", 0, h) for h in range(4, 12)])
        self.assertEqual(told[5], [0] + list(range(4, 12)))
        seals = sealed(FORM)
        for row, answer in zip(rows, told[6:]):
            self.assertEqual(answer, [0] + octets(summed(seals + seals[::-1], row)))

    def test_how_many_seals(self):
        for many in (1, 2, 7, 8):
            self.assertEqual(self.mixed([0] * many, [1] * many), [0, 4])
        for many in (0, 9, 10, 16):
            self.assertEqual(self.mixed([0] * many, [1] * many), [-1])
            self.assertEqual(self.mixed([0] * many, [1]), [-1])
            self.assertEqual(self.mixed([0] * many, []), [-1])
            self.assertEqual(self.mixed([0] * many, [1] * 8), [-1])

    def test_how_many_rows(self):
        for seals in (1, 2, 3, 8):
            for rows in (1, 2, 7, 8):
                self.assertEqual(self.mixed([1] * seals, [1] * seals * rows), [0] + list(range(4, 4 + rows)))
            for rows in (0, 9, 10, 64):
                self.assertEqual(self.mixed([1] * seals, [1] * seals * rows), [-1])

    def test_no_whole_rows(self):
        for seals, numbers in ((2, 1), (2, 3), (2, 15), (2, 17), (3, 1), (3, 2), (3, 4), (3, 8), (8, 1), (8, 7),
                               (8, 9), (8, 63), (8, 65)):
            self.assertEqual(self.mixed([0] * seals, [1] * numbers), [-1], (seals, numbers))

    def test_numbers_out_of_range(self):
        for number in (-129, 128, LEAST_C, GREATEST_C):
            for place in range(6):
                numbers = [1] * 6
                numbers[place] = number
                self.assertEqual(self.mixed([0, 1, 2], numbers), [-1])
        for number in (-128, 127):
            self.assertEqual(self.mixed([0, 1, 2], [number] * 6), [0, 4, 5])

    def test_each_seal_missing(self):
        for place in range(3):
            for missing in (4, 31, 32, GREATEST):
                seals = [0, 1, 2]
                seals[place] = missing
                self.assertEqual(self.mixed(seals, [0] * 3), [-5])

    def test_room_for_all(self):
        for free in range(9):
            for rows in range(1, 9):
                told = ask(*begun(FORM), *filled(0, 28 - free), ("mix", 0, [0, 1], [1, 1] * rows), ("count", 0))
                made = [0] + list(range(32 - free, 32 - free + rows))
                self.assertEqual(told[-2:], [made, [0, 32 - free + rows]] if rows <= free else [[-3], [0, 32 - free]])

    def test_number_ahead_of_seal_ahead_of_room(self):
        told = ask(*begun(FORM), *filled(0, 28), ("mix", 0, [32], [128]), ("mix", 0, [32], []), ("mix", 0, [], []),
                   ("mix", 0, [0, 32], [1]), ("mix", 0, [32], [1]), ("mix", 0, [0], [1]))
        self.assertEqual(told[-6:], [[-1], [-1], [-1], [-1], [-5], [-3]])

    def test_put_into_the_gaps(self):
        told = ask(*begun(FORM), *filled(0, 6), ("drop", 0, 7), ("drop", 0, 0), ("drop", 0, 4),
                   ("mix", 0, [1], [0, 1, 2, 3, 4]), *[("write", 0, h) for h in (0, 4, 7, 10, 11)])
        self.assertEqual(told[-6], [0, 0, 4, 7, 10, 11])
        self.assertEqual(told[-5:], [[0] + octets(summed(sealed(FORM), (0, x))) for x in range(5)])


class DropAndCount(unittest.TestCase):
    def test_the_seal_is_gone(self):
        told = ask(*begun(FORM), ("drop", 0, 1), ("count", 0), ("open", 0, 1), ("write", 0, 1), ("drop", 0, 1),
                   ("open", 0, 0), ("open", 0, 2), ("open", 0, 3), ("count", 0))
        self.assertEqual(told[5:], [[0], [0, 3], [-5], [-5], [-5], [0, 3], [0, 2], [0, 0], [0, 3]])

    def test_its_number_is_free(self):
        told = ask(*begun(FORM), ("drop", 0, 2), ("drop", 0, 0), ("plus", 0, 3, 1), ("plus", 0, 3, 2),
                   ("plus", 0, 3, 3), ("open", 0, 0), ("open", 0, 2), ("open", 0, 4))
        self.assertEqual(told[5:], [[0], [0], [0, 0], [0, 2], [0, 4], [0, 1], [0, 2], [0, 3]])

    def test_no_such_seal(self):
        for h in (4, 31, 32, GREATEST):
            self.assertEqual(ask(*begun(FORM), ("drop", 0, h), ("count", 0))[5:], [[-5], [0, 4]])

    def test_all_counts(self):
        calls = [call for _ in range(31) for call in (("times", 0, 0, 1), ("count", 0))]
        told = ask(("key", 0, 11, LEAST), ("count", 0), ("seal", 0, 1, 1), ("count", 0), *calls, ("add", 0, 0, 0),
                   ("count", 0))
        self.assertEqual(told[1::2][:33], [[0, many] for many in range(33)])
        self.assertEqual(told[-2:], [[-3], [0, 32]])

    def test_each_box_its_own(self):
        told = ask(*begun(FORM), ("hand", 1, 0), ("count", 1), ("send", 0, 2, 1), ("drop", 0, 2), ("count", 0),
                   ("count", 1), ("bound", 1, 0))
        self.assertEqual(told[5:], [[0], [0, 0], [0, 0], [0], [0, 3], [0, 1], [0, 5]])


class Sure(unittest.TestCase):
    def test_just_sure_and_just_not(self):
        for form in FORMS:
            sure = greatest_sure(form)
            for bound in {0, max(sure - 1, 0), max(sure, 0), sure + 1, sure + 2, 32767, 32768}:
                told = last(("key", 0, 1, form), ("read", 0, bound, [0] * (2 * form[0] + 2)), ("sure", 0, 0))
                self.assertEqual(told, [0, int(bound <= sure)], (form, bound))

    def test_written_out(self):
        # 8192 / 2 is 4096; (1 + 1) (16384 / 32) is 1024; 3071 and 1024 are less than 4096.
        told = ask(("key", 0, 1, DEEP), ("read", 0, 3071, [0] * 4), ("read", 0, 3072, [0] * 4), ("sure", 0, 0),
                   ("sure", 0, 1))
        self.assertEqual(told[3:], [[0, 1], [0, 0]])

    def test_never_sure(self):
        told = ask(("key", 0, 1, MOST[:7] + [0]), ("seal", 0, 0, 0), ("bound", 0, 0), ("sure", 0, 0))
        self.assertEqual(told[2:], [[0, 0], [0, 0]])

    def test_no_such_seal(self):
        for h in (4, 32, GREATEST):
            self.assertEqual(last(*begun(FORM), ("sure", 0, h)), [-5])


class OfABox(unittest.TestCase):
    CALLS = (("drop", 0), ("count",), ("add", 0, 0), ("sub", 0, 0), ("times", 0, 1), ("plus", 0, 1), ("sure", 0),
             ("mix", [0], [1]), ("drop", 99), ("add", 99, 99), ("sub", 99, 99), ("times", 99, 999),
             ("plus", 99, 99), ("sure", 99), ("mix", [], []))

    def test_refused_ahead_of_all(self):
        for call in self.CALLS:
            for k, refusal in ((1, -4), (2, -4), (3, -1), (GREATEST, -1)):
                told = ask(*begun(FORM), call[:1] + (k,) + call[1:], ("count", 0))
                self.assertEqual(told[5:], [[refusal], [0, 4]], call)

    def test_no_secrets_are_needed(self):
        told = ask(*begun(FORM), ("hand", 1, 0), ("send", 0, 0, 1), ("send", 0, 1, 1), ("add", 1, 0, 1),
                   ("sub", 1, 0, 1), ("times", 1, 0, -1), ("plus", 1, 0, 7), ("mix", 1, [0, 1], [2, 3]), ("sure", 1, 0),
                   ("drop", 1, 0), ("count", 1), *[("send", 1, h, 0) for h in range(2, 7)],
                   *[("open", 0, h) for h in range(4, 9)])
        self.assertEqual(told[8:16], [[0, 2], [0, 3], [0, 4], [0, 5], [0, 6], [0, 1], [0], [0, 6]])
        self.assertEqual(told[21:], [[0, 4], [0, 2], [0, 5], [0, 2], [0, 1]])

    def test_refused_changes_nothing(self):
        full = [*begun(FORM), *filled(0, 28)]
        refused = [("drop", 0, 32), ("add", 0, 0, 1), ("add", 0, 0, 32), ("sub", 0, 0, 1), ("times", 0, 0, 2),
                   ("times", 0, 0, 128), ("plus", 0, 0, 1), ("plus", 0, 0, 8), ("mix", 0, [0], [1]), ("mix", 0, [], []),
                   ("sure", 0, 32)]
        told = ask(*full, *refused, *looks(0))
        self.assertTrue(all(len(answer) == 1 and answer[0] < 0 for answer in told[len(full):len(full) + 11]))
        self.assertEqual(told[len(full) + 11:], ask(*full, *looks(0))[len(full):])


if __name__ == "__main__":
    unittest.main()
