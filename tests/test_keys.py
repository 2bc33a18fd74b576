"""The calls key (4), hand (5), give (6), take (7) and told (8)."""

import unittest

from helper import FORM, FULL, GREATEST, GREATEST_SEED, LEAST, MOST, Keys, ask, last, low
from sealedbox.workpart import part_of

SMALL = ([1, 8, 2, 2, 7, 3, 5, 127], [2, 8, 4, 1, 8, 16, 1, 0], [4, 8, 2, 2, 3, 2, 8, 1], [1, 32, 8, 2, 5, 5, 3, 60])
TOO_LONG = [3, 8, 2, 4, 8, 15, 1, 3]


def given(seed, form):
    return last(("key", 0, seed, form), ("give", 0))[1:]


def taken(octets):
    return last(("take", 0, octets))


class Key(unittest.TestCase):
    def test_working_part_of_luck(self):
        for form in (LEAST, FORM, FULL) + SMALL:
            for seed in (0, 77, GREATEST_SEED):
                self.assertEqual(given(seed, form), Keys(seed, form).part(), (seed, form))

    def test_secret_bits_of_both_kinds_are_met(self):
        met = {bit for seed in (0, 77, GREATEST_SEED) for bit in Keys(seed, FORM).s}
        self.assertEqual(met, {0, 1})

    def test_answers(self):
        self.assertEqual(last(("key", 0, 0, FORM)), [0])
        self.assertEqual(last(("key", 2, GREATEST_SEED, MOST)), [0])

    def test_refused(self):
        for k in (3, 4, GREATEST):
            self.assertEqual(last(("key", k, 0, FORM)), [-1])
        for form in ([], FORM[:7], FORM + [0], [0] * 8, [5] + FORM[1:], FORM[:7] + [128]):
            self.assertEqual(ask(("key", 0, 0, form), ("told", 0)), [[-1], [-4]])

    def test_refused_changes_nothing(self):
        before = (("key", 1, 3, FORM), ("seal", 1, 5, 9), ("give", 1), ("told", 1), ("write", 1, 0))
        kept = ask(*before)
        told = ask(*before[:2], ("key", 1, 4, FORM[:7]), ("key", 3, 4, FORM), *before[2:])
        self.assertEqual(told, kept[:2] + [[-1], [-1]] + kept[2:])

    def test_begins_anew(self):
        told = ask(("key", 0, 3, FORM), ("seal", 0, 1, 1), ("cap", 0, 5), ("key", 0, 4, LEAST),
                   ("told", 0), ("bound", 0, 0), ("uses", 0), ("seal", 0, 1, 1), ("give", 0))
        self.assertEqual(told[4:8], [[0, 1] + LEAST, [-5], [0, 0], [0, 0]])
        self.assertEqual(told[8], [0] + Keys(4, LEAST).part())

    def test_boxes_don_t_touch(self):
        told = ask(("key", 0, 3, FORM), ("key", 1, 4, LEAST), ("key", 2, 5, FORM), ("seal", 1, 1, 1),
                   ("bound", 0, 0), ("bound", 1, 0), ("bound", 2, 0), ("give", 0), ("give", 1), ("give", 2))
        self.assertEqual(told[4:7], [[-5], [0, 0], [-5]])
        self.assertEqual(told[7:], [[0] + Keys(3, FORM).part(), [0] + Keys(4, LEAST).part(),
                                    [0] + Keys(5, FORM).part()])


class Hand(unittest.TestCase):
    def test_the_part_without_secrets(self):
        told = ask(("key", 0, 3, FORM), ("seal", 0, 1, 1), ("hand", 2, 0), ("told", 2), ("give", 2), ("give", 0),
                   ("bound", 2, 0), ("told", 0), ("open", 0, 0), ("uses", 2))
        self.assertEqual(told[2:4], [[0], [0, 0] + FORM])
        self.assertEqual(told[4], told[5])
        self.assertEqual(told[6:], [[-5], [0, 1] + FORM, [0, 1], [0, 0]])

    def test_to_itself(self):
        told = ask(("key", 1, 3, FORM), ("seal", 1, 1, 1), ("hand", 1, 1), ("told", 1), ("bound", 1, 0),
                   ("seal", 1, 1, 1), ("give", 1))
        self.assertEqual(told[2:6], [[0], [0, 0] + FORM, [-5], [-6]])
        self.assertEqual(told[6], [0] + Keys(3, FORM).part())

    def test_on_from_one_without_secrets(self):
        told = ask(("key", 0, 3, FORM), ("hand", 1, 0), ("hand", 2, 1), ("told", 2), ("give", 2))
        self.assertEqual(told[2:], [[0], [0, 0] + FORM, [0] + Keys(3, FORM).part()])

    def test_over_one_that_was_begun(self):
        told = ask(("key", 0, 3, FORM), ("key", 1, 4, LEAST), ("seal", 1, 0, 0), ("hand", 1, 0), ("told", 1),
                   ("bound", 1, 0))
        self.assertEqual(told[3:], [[0], [0, 0] + FORM, [-5]])

    def test_stays_when_the_giver_is_begun_anew(self):
        told = ask(("key", 0, 3, FORM), ("hand", 1, 0), ("key", 0, 4, LEAST), ("told", 1), ("give", 1))
        self.assertEqual(told[3:], [[0, 0] + FORM, [0] + Keys(3, FORM).part()])

    def test_refused(self):
        for k, j, refusal in ((3, 0, -1), (GREATEST, 1, -1), (0, 3, -1), (0, GREATEST, -1), (2, 3, -1), (3, 3, -1),
                              (0, 1, -4), (2, 2, -4), (1, 1, -4), (3, 2, -1)):
            self.assertEqual(last(("key", 0, 3, LEAST), ("hand", k, j)), [refusal], (k, j))

    def test_refused_changes_nothing(self):
        told = ask(("key", 0, 3, FORM), ("seal", 0, 1, 1), ("hand", 0, 1), ("hand", 0, 3), ("told", 0), ("open", 0, 0))
        self.assertEqual(told[2:], [[-4], [-1], [0, 1] + FORM, [0, 1]])


class Give(unittest.TestCase):
    def test_four_thousand_bytes(self):
        told = last(("key", 0, 3, FULL), ("give", 0))
        self.assertEqual(len(told), 4001)
        self.assertEqual(told, [0] + Keys(3, FULL).part())

    def test_too_many_bytes(self):
        for form in (TOO_LONG, MOST):
            told = ask(("key", 0, 3, form), ("give", 0), ("told", 0), ("hand", 1, 0), ("give", 1))
            self.assertEqual(told, [[0], [-10], [0, 1] + form, [0], [-10]])

    def test_of_a_box(self):
        self.assertEqual(ask(("give", 0), ("give", 2), ("give", 3), ("give", GREATEST)), [[-4], [-4], [-1], [-1]])


class Take(unittest.TestCase):
    def test_handed_over_is_given_and_taken(self):
        for form in (LEAST, FORM, FULL) + SMALL:
            octets = given(7, form)
            told = ask(("take", 2, octets), ("told", 2), ("give", 2), ("bound", 2, 0), ("uses", 2), ("seal", 2, 0, 0))
            self.assertEqual(told, [[0], [0, 0] + form, [0] + octets, [-5], [0, 0], [-6]])

    def test_pairs_and_rows_are_cut_as_they_were(self):
        for form in (LEAST, FORM, FULL) + SMALL:
            keys = Keys(7, form)
            part = part_of(keys.part())
            self.assertEqual([a + b for a, b in part.pairs], keys.pairs)
            self.assertEqual({len(poly) for pair in part.pairs for poly in pair}, {form[1]})
            self.assertEqual(part.rows, keys.rows)

    def test_over_one_that_was_begun(self):
        told = ask(("key", 1, 4, FORM), ("seal", 1, 0, 0), ("take", 1, given(7, LEAST)), ("told", 1), ("bound", 1, 0))
        self.assertEqual(told[2:], [[0], [0, 0] + LEAST, [-5]])

    def test_less_than_a_form(self):
        octets = given(7, LEAST)
        for many in (0, 1, 4, 31):
            self.assertEqual(taken(octets[:many]), [-9, many])
            self.assertEqual(taken([255] * many), [-9, many])

    def test_no_form(self):
        octets = given(7, LEAST)
        for place in range(32):
            self.assertEqual(taken(octets[:place] + [255] + octets[place + 1:]), [-9, 0], place)
        self.assertEqual(taken([0] * 32), [-9, 0])
        self.assertEqual(taken([255] * 4000), [-9, 0])

    def test_form_s_highest_bytes_count(self):
        octets = given(7, LEAST)
        for place in range(8):
            for higher in (1, 2, 3):
                at = 4 * place + higher
                self.assertEqual(taken(octets[:at] + [1] + octets[at + 1:]), [-9, 0])

    def test_not_as_many_as_the_form_says(self):
        octets = given(7, LEAST)
        self.assertEqual(len(octets), 320)
        for many in (32, 33, 39, 40, 287, 288, 289, 318, 319):
            self.assertEqual(taken(octets[:many]), [-9, many])
        for more in (1, 2, 3680):
            self.assertEqual(taken(octets + [0] * more), [-9, 320])
            self.assertEqual(taken(octets + [255] * more), [-9, 320])

    def test_a_form_whose_part_is_too_long(self):
        head = [octet for x in MOST for octet in low(x, 4)]
        self.assertEqual(taken(head), [-9, 32])
        self.assertEqual(taken(head + [0] * 3968), [-9, 4000])

    def test_length_ahead_of_the_pairs_numbers(self):
        octets = given(7, LEAST)
        wrong = octets[:39] + [1] + octets[40:]
        self.assertEqual(taken(wrong[:100]), [-9, 100])
        self.assertEqual(taken(wrong + [0]), [-9, 320])

    def test_each_pair_number_out_of_its_range(self):
        octets = given(7, LEAST)
        for index in range(32):
            at = 32 + 8 * index
            for high in ([16, 0], [0, 1], [255, 255]):
                self.assertEqual(taken(octets[:at + 6] + high + octets[at + 8:]), [-9, at])
            wrong = octets[:at] + low(2 ** 52, 8) + octets[at + 8:]
            self.assertEqual(taken(wrong), [-9, at])

    def test_first_of_two_faults(self):
        octets = given(7, LEAST)
        wrong = octets[:64] + [255] * 8 + octets[72:200] + [255] * 8 + octets[208:]
        self.assertEqual(taken(wrong), [-9, 64])

    def test_greatest_numbers_are_kept(self):
        head = [octet for x in LEAST for octet in low(x, 4)]
        octets = head + low(2 ** 52 - 1, 8) * 32 + [255] * 32
        self.assertEqual(ask(("take", 0, octets), ("give", 0)), [[0], [0] + octets])

    def test_no_fault_in_rows(self):
        octets = given(7, LEAST)
        self.assertEqual(taken(octets[:288] + [255] * 32), [0])

    def test_too_many_bytes(self):
        octets = given(7, FULL)
        self.assertEqual(len(octets), 4000)
        self.assertEqual(taken(octets), [0])
        self.assertEqual(taken(octets + [0]), [-2])
        self.assertEqual(taken([255] * 4001), [-2])
        self.assertEqual(taken([0] * 7990), [-2])

    def test_box_ahead_of_bytes(self):
        for k in (3, GREATEST):
            self.assertEqual(last(("take", k, [0] * 4001)), [-1])
            self.assertEqual(last(("take", k, [])), [-1])
            self.assertEqual(last(("take", k, given(7, LEAST))), [-1])

    def test_refused_changes_nothing(self):
        told = ask(("key", 0, 3, LEAST), ("seal", 0, 1, 1), ("take", 0, []), ("take", 0, [0] * 32),
                   ("take", 0, [0] * 4001), ("told", 0), ("open", 0, 0), ("give", 0), ("take", 1, []), ("told", 1))
        self.assertEqual(told[2:7], [[-9, 0], [-9, 0], [-2], [0, 1] + LEAST, [0, 1]])
        self.assertEqual(told[7:], [[0] + Keys(3, LEAST).part(), [-9, 0], [-4]])


class Told(unittest.TestCase):
    def test_secrets_and_form(self):
        for form in (LEAST, FORM, FULL, MOST) + SMALL:
            told = ask(("key", 0, 3, form), ("told", 0), ("hand", 1, 0), ("told", 1))
            self.assertEqual(told[1::2], [[0, 1] + form, [0, 0] + form])

    def test_of_a_box(self):
        self.assertEqual(ask(("told", 0), ("told", 2), ("told", 3), ("told", GREATEST)), [[-4], [-4], [-1], [-1]])


if __name__ == "__main__":
    unittest.main()
