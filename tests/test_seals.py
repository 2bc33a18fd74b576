"""The calls seal (11), open (12), off (13), bound (14) and write (15)."""

import unittest

from helper import FORM, FULL, GREATEST, GREATEST_SEED, LEAST, MOST, Keys, ask, last
from sealedbox.forms import Form
from sealedbox.seals import Seal, off_by, opened

FORMS = (LEAST, FORM, FULL, MOST, [4, 16, 8, 1, 1, 1, 1, 127], [3, 32, 2, 1, 8, 2, 8, 77])
SEEDS = (0, 1, 5, 1000, 2 ** 63, GREATEST_SEED)
OPENED = ("open", "off", "bound", "write")


class Sealed(unittest.TestCase):
    """A new seal, looked at in all ways."""

    def test_opens_to_its_number_off_by_its_luck(self):
        for form in FORMS:
            keys = Keys(11, form)
            for j in range(2 * form[2]):
                for seed in SEEDS:
                    told = ask(("key", 0, 11, form), ("seal", 0, j, seed), ("open", 0, 0), ("off", 0, 0, j),
                               ("bound", 0, 0), ("write", 0, 0))
                    expected = [[0, 0], [0, j], [0, keys.seal_off(seed)], [0, form[7]], [0] + keys.seal(j, seed)]
                    self.assertEqual(told[1:], expected, (form, j, seed))
                    self.assertLessEqual(abs(told[3][1]), told[4][1])
                if form == MOST:
                    break

    def test_written_out(self):
        # Secret bit 20 modulo 2 is 0; a is 20 + 26 * 256; b is 3 steps alone, as there's no noise.
        told = ask(("key", 0, 0, LEAST), ("seal", 0, 3, 0), ("write", 0, 0))
        self.assertEqual(told[2], [0, 20, 26, 0, 192])
        # Secret bit 187 modulo 2 is 1; b is a and 1 step.
        told = ask(("key", 0, GREATEST_SEED, LEAST), ("seal", 0, 1, 0), ("write", 0, 0))
        self.assertEqual(told[2], [0, 20, 26, 20, 26 + 64])

    def test_off_from_other_numbers(self):
        for form in FORMS[:3]:
            step, whole = 32768 // form[2], 2 * form[2]
            for seed in SEEDS:
                luck = Keys(11, form).seal_off(seed)
                for j in range(whole):
                    calls = [("off", 0, 0, i) for i in range(whole)]
                    told = ask(("key", 0, 11, form), ("seal", 0, j, seed), *calls)
                    apart = [((j - i) * step + luck + 32768) % 65536 - 32768 for i in range(whole)]
                    self.assertEqual(told[2:], [[0, x] for x in apart])

    def test_off_by_half_of_all(self):
        told = ask(("key", 0, 1, LEAST), ("seal", 0, 0, 1), ("off", 0, 0, 2), ("off", 0, 0, 1), ("off", 0, 0, 3))
        self.assertEqual(told[2:], [[0, -32768], [0, -16384], [0, 16384]])

    def test_least_and_greatest_luck_are_met(self):
        keys = Keys(11, FORM)
        met = {}
        for seed in range(200):
            met.setdefault(keys.seal_off(seed), seed)
        self.assertEqual(sorted(met), list(range(-5, 6)))
        for luck, seed in met.items():
            told = ask(("key", 0, 11, FORM), ("seal", 0, 7, seed), ("off", 0, 0, 7), ("open", 0, 0))
            self.assertEqual(told[2:], [[0, luck], [0, 7]])

    def test_several_seals_each_its_own(self):
        keys = Keys(11, FORM)
        seals = [("seal", 0, j, 30 + j) for j in range(8)]
        looks = [(name, 0, h) + ((h,) if name == "off" else ()) for h in range(8) for name in OPENED]
        told = ask(("key", 0, 11, FORM), *seals, *looks)
        self.assertEqual(told[1:9], [[0, h] for h in range(8)])
        for h in range(8):
            at = 9 + 4 * h
            self.assertEqual(told[at:at + 4], [[0, h], [0, keys.seal_off(30 + h)], [0, 5], [0] + keys.seal(h, 30 + h)])

    def test_looking_changes_nothing(self):
        looks = [("open", 0, 0), ("off", 0, 0, 2), ("bound", 0, 0), ("write", 0, 0), ("uses", 0), ("told", 0)]
        told = ask(("key", 0, 11, FORM), ("seal", 0, 2, 4), *looks, *looks)
        self.assertEqual(told[2:8], told[8:])


class HalfAStep(unittest.TestCase):
    """New seals are hardly off, so those that are far off are made by hand."""

    def test_opens_to_the_nearest_number(self):
        for p in (2, 4, 8):
            form, step = Form([2, 16, p, 1, 1, 1, 1, 0]), 32768 // p
            for j in range(2 * p):
                for off in (-step // 2, 1 - step // 2, -1, 0, 1, step // 2 - 1):
                    seal = Seal([9, 60000], (60000 + j * step + off) % 65536, 0)
                    self.assertEqual(opened(form, [0, 1], seal), j, (p, j, off))
                    self.assertEqual(off_by(form, [0, 1], seal, j), off)
                seal = Seal([9, 60000], (60000 + j * step + step // 2) % 65536, 0)
                self.assertEqual(opened(form, [0, 1], seal), (j + 1) % (2 * p))

    def test_signed_at_its_edges(self):
        form = Form(LEAST)
        for phase, off in ((0, 0), (32767, 32767), (32768, -32768), (65535, -1)):
            self.assertEqual(off_by(form, [1], Seal([5], (phase + 5) % 65536, 0), 0), off)


class Room(unittest.TestCase):
    def test_full_box(self):
        seals = [("seal", 0, h % 8, h) for h in range(32)]
        told = ask(("key", 0, 1, FORM), *seals, ("seal", 0, 0, 0), ("seal", 0, 7, 0), ("open", 0, 31), ("bound", 0, 32),
                   *[("open", 0, h) for h in range(32)])
        self.assertEqual(told[1:33], [[0, h] for h in range(32)])
        self.assertEqual(told[33:37], [[-3], [-3], [0, 7], [-5]])
        self.assertEqual(told[37:], [[0, h % 8] for h in range(32)])

    def test_other_boxes_have_their_own_room(self):
        seals = [("seal", 0, 1, h) for h in range(32)]
        told = ask(("key", 0, 1, LEAST), ("key", 1, 1, LEAST), *seals, ("seal", 1, 1, 0), ("seal", 0, 1, 0))
        self.assertEqual(told[-2:], [[0, 0], [-3]])

    def test_begun_anew_there_is_room(self):
        seals = [("seal", 0, 1, h) for h in range(32)]
        told = ask(("key", 0, 1, LEAST), *seals, ("key", 0, 1, LEAST), ("seal", 0, 1, 0))
        self.assertEqual(told[-1], [0, 0])


class Refused(unittest.TestCase):
    def test_of_a_box(self):
        for rest in (("seal", 0, 0), ("open", 0), ("off", 0, 0), ("bound", 0), ("write", 0)):
            for k, refusal in ((0, -4), (2, -4), (3, -1), (GREATEST, -1)):
                self.assertEqual(last(("key", 1, 1, LEAST), rest[:1] + (k,) + rest[1:]), [refusal], rest)

    def test_box_ahead_of_all(self):
        for rest in (("seal", 99, 0), ("open", 99), ("off", 99, 99), ("bound", 99), ("write", 99)):
            for k, refusal in ((2, -4), (3, -1)):
                self.assertEqual(last(rest[:1] + (k,) + rest[1:]), [refusal], rest)

    def test_no_secrets_ahead_of_number_and_seal(self):
        calls = (("seal", 1, 0, 0), ("seal", 1, 8, 0), ("open", 1, 0), ("open", 1, 32), ("off", 1, 0, 0),
                 ("off", 1, 0, 8), ("off", 1, 32, 8))
        told = ask(("key", 0, 1, FORM), ("seal", 0, 1, 1), ("hand", 1, 0), *calls)
        self.assertEqual(told[3:], [[-6]] * len(calls))

    def test_bound_and_write_need_no_secrets(self):
        told = ask(("key", 0, 1, FORM), ("hand", 1, 0), ("bound", 1, 0), ("write", 1, 0))
        self.assertEqual(told[2:], [[-5], [-5]])

    def test_number_below_twice_p(self):
        for form in ([1, 16, 2, 1, 1, 1, 1, 0], [1, 16, 4, 1, 1, 1, 1, 0], [1, 16, 8, 1, 1, 1, 1, 0]):
            whole = 2 * form[2]
            told = ask(("key", 0, 1, form), ("seal", 0, whole - 1, 1), ("seal", 0, whole, 1), ("seal", 0, GREATEST, 1),
                       ("open", 0, 0), ("bound", 0, 1), ("off", 0, 0, whole - 1), ("off", 0, 0, whole),
                       ("off", 0, 0, GREATEST))
            self.assertEqual(told[1:], [[0, 0], [-1], [-1], [0, whole - 1], [-5], [0, 0], [-1], [-1]])

    def test_number_ahead_of_room_and_seal(self):
        seals = [("seal", 0, 1, h) for h in range(32)]
        told = ask(("key", 0, 1, FORM), ("off", 0, 0, 8), ("off", 0, 0, 7), *seals,
                   ("seal", 0, 8, 0), ("seal", 0, 7, 0))
        self.assertEqual(told[1:3], [[-1], [-5]])
        self.assertEqual(told[-2:], [[-1], [-3]])

    def test_no_such_seal(self):
        for h in (1, 31, 32, GREATEST):
            told = ask(("key", 0, 1, FORM), ("seal", 0, 1, 1), ("open", 0, h), ("off", 0, h, 1), ("bound", 0, h),
                       ("write", 0, h))
            self.assertEqual(told[2:], [[-5]] * 4)

    def test_refused_seal_takes_no_number(self):
        told = ask(("key", 0, 1, FORM), ("seal", 0, 8, 1), ("seal", 0, 3, 1), ("seal", 0, 9, 1), ("seal", 0, 4, 1),
                   ("open", 0, 0), ("open", 0, 1), ("bound", 0, 2))
        self.assertEqual(told[1:], [[-1], [0, 0], [-1], [0, 1], [0, 3], [0, 4], [-5]])


if __name__ == "__main__":
    unittest.main()
