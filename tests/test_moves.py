"""The calls read (16) and send (17)."""

import unittest

from helper import DEEP, FORM, FULL, GREATEST, LEAST, MOST, ask, filled, keys_of, last, looks

FORMS = (LEAST, FORM, FULL, DEEP, MOST)
FIRST = [1, 2, 3, 4, 5, 6]


class Read(unittest.TestCase):
    def test_what_is_written_comes_back(self):
        for form in FORMS:
            size = 2 * form[0] + 2
            for row in ([0] * size, [255] * size, list(range(1, size + 1)), list(range(256 - size, 256))):
                told = ask(("key", 0, 11, form), ("read", 0, 77, row), ("write", 0, 0), ("bound", 0, 0), ("count", 0))
                self.assertEqual(told[1:], [[0, 0], [0] + row, [0, 77], [0, 1]])

    def test_opens_as_it_did(self):
        for form in FORMS:
            for j in range(2 * form[2]):
                keys = keys_of(11, form)
                told = ask(("key", 0, 11, form), ("read", 0, 3, keys.seal(j, 99)), ("open", 0, 0), ("off", 0, 0, j))
                self.assertEqual(told[1:], [[0, 0], [0, j], [0, keys.seal_off(99)]])

    def test_no_secrets_are_needed(self):
        told = ask(("key", 0, 11, FORM), ("hand", 1, 0), ("read", 1, 9, FIRST), ("write", 1, 0), ("bound", 1, 0))
        self.assertEqual(told[2:], [[0, 0], [0] + FIRST, [0, 9]])

    def test_bounds(self):
        for bound in (0, 1, 32767, 32768):
            self.assertEqual(ask(("key", 0, 11, FORM), ("read", 0, bound, FIRST), ("bound", 0, 0))[1:],
                             [[0, 0], [0, bound]])
        for bound in (32769, 32770, 65536, GREATEST):
            self.assertEqual(ask(("key", 0, 11, FORM), ("read", 0, bound, FIRST), ("count", 0))[1:], [[-1], [0, 0]])

    def test_how_many_bytes(self):
        for form in FORMS:
            size = 2 * form[0] + 2
            for many in (0, 1, size - 2, size - 1, size + 1, size + 2, 100):
                told = ask(("key", 0, 11, form), ("read", 0, 0, [1] * many), ("count", 0))
                self.assertEqual(told[1:], [[-2], [0, 0]], (form, many))

    def test_the_order_of_refusals(self):
        full = [("key", 0, 11, FORM), ("read", 0, 0, FIRST), *filled(0, 31)]
        told = ask(*full, ("read", 0, 32769, FIRST[:5]), ("read", 0, 32769, FIRST), ("read", 0, 32768, FIRST[:5]),
                   ("read", 0, 32768, FIRST), ("drop", 0, 30), ("read", 0, 32768, FIRST), ("read", 0, 32768, FIRST))
        self.assertEqual(told[len(full):], [[-1], [-1], [-2], [-3], [0], [0, 30], [-3]])

    def test_of_a_box(self):
        for k, refusal in ((1, -4), (2, -4), (3, -1), (GREATEST, -1)):
            self.assertEqual(last(("key", 0, 11, FORM), ("read", k, 0, FIRST)), [refusal])
            self.assertEqual(last(("key", 0, 11, FORM), ("read", k, 32769, [])), [refusal])

    def test_refused_changes_nothing(self):
        before = [("key", 0, 11, FORM), ("read", 0, 5, FIRST), *filled(0, 31)]
        refused = [("read", 0, 32769, FIRST), ("read", 0, 1, FIRST[1:]), ("read", 0, 1, FIRST)]
        told = ask(*before, *refused, *looks(0))
        self.assertEqual(told[len(before):len(before) + 3], [[-1], [-2], [-3]])
        self.assertEqual(told[len(before) + 3:], ask(*before, *looks(0))[len(before):])


class Send(unittest.TestCase):
    def test_between_boxes_of_the_same_form(self):
        for form in FORMS:
            told = ask(("key", 0, 11, form), ("hand", 2, 0), ("seal", 0, 1, 4), ("seal", 0, 3, 5), ("times", 0, 1, 3),
                       ("send", 0, 2, 2), ("send", 0, 0, 2), ("write", 2, 0), ("bound", 2, 0), ("write", 2, 1),
                       ("bound", 2, 1), ("write", 0, 2), ("bound", 0, 2), ("write", 0, 0), ("bound", 0, 0),
                       ("count", 0), ("count", 2))
            self.assertEqual(told[5:7], [[0, 0], [0, 1]])
            self.assertEqual(told[7:11], told[11:15])
            self.assertEqual(told[8], [0, min(32768, 3 * form[7])])
            self.assertEqual(told[15:], [[0, 3], [0, 2]])

    def test_to_the_box_itself(self):
        told = ask(("key", 1, 11, FORM), ("seal", 1, 3, 4), ("send", 1, 0, 1), ("send", 1, 1, 1), ("write", 1, 0),
                   ("write", 1, 1), ("write", 1, 2), ("bound", 1, 2), ("open", 1, 2), ("count", 1))
        self.assertEqual(told[2:4], [[0, 1], [0, 2]])
        self.assertEqual(told[4], told[5])
        self.assertEqual(told[5], told[6])
        self.assertEqual(told[7:], [[0, 5], [0, 3], [0, 3]])

    def test_into_the_least_free_number(self):
        told = ask(("key", 0, 11, FORM), ("seal", 0, 3, 4), ("hand", 1, 0), ("read", 1, 0, FIRST), *filled(1, 5),
                   ("drop", 1, 2), ("send", 0, 0, 1), ("send", 0, 0, 1), ("bound", 1, 2), ("bound", 1, 6))
        self.assertEqual(told[-4:], [[0, 2], [0, 6], [0, 5], [0, 5]])

    def test_what_was_sent_stays(self):
        told = ask(("key", 0, 11, FORM), ("seal", 0, 3, 4), ("hand", 1, 0), ("write", 0, 0), ("send", 0, 0, 1),
                   ("drop", 0, 0), ("read", 0, 1, FIRST), ("key", 0, 12, LEAST), ("write", 1, 0), ("bound", 1, 0))
        self.assertEqual(told[8:], [told[3], [0, 5]])

    def test_forms_are_looked_at_not_keys(self):
        told = ask(("key", 0, 11, FORM), ("key", 1, 12, FORM), ("seal", 0, 3, 4), ("send", 0, 0, 1), ("write", 1, 0),
                   ("write", 0, 0))
        self.assertEqual(told[3], [0, 0])
        self.assertEqual(told[4], told[5])

    def test_each_number_of_the_form_counts(self):
        other = [3, 32, 2, 2, 5, 3, 2, 6]
        for place in range(8):
            form = FORM[:place] + [other[place]] + FORM[place + 1:]
            told = ask(("key", 0, 11, FORM), ("key", 1, 11, form), ("seal", 0, 3, 4), ("send", 0, 0, 1), ("count", 1),
                       ("seal", 1, 3, 4), ("send", 1, 0, 0), ("count", 0))
            self.assertEqual(told[3:], [[-2], [0, 0], [0, 0], [-2], [0, 1]], form)

    def test_no_such_seal(self):
        for h in (1, 31, 32, GREATEST):
            told = ask(("key", 0, 11, FORM), ("hand", 1, 0), ("seal", 0, 3, 4), ("send", 0, h, 1), ("send", 1, 0, 0),
                       ("send", 0, h, 0), ("count", 0), ("count", 1))
            self.assertEqual(told[3:], [[-5], [-5], [-5], [0, 1], [0, 0]])

    def test_of_both_boxes_in_order(self):
        for k, j, refusal in ((3, 3, -1), (3, 0, -1), (GREATEST, 1, -1), (1, 3, -4), (1, 0, -4), (2, 1, -4),
                              (0, 3, -1), (0, GREATEST, -1), (0, 1, -4), (0, 2, -4)):
            for h in (0, 99):
                told = ask(("key", 0, 11, FORM), ("seal", 0, 3, 4), ("send", k, h, j), ("count", 0))
                self.assertEqual(told[2:], [[refusal], [0, 1]], (k, h, j))

    def test_the_order_of_refusals(self):
        full = [("key", 0, 11, FORM), ("seal", 0, 3, 4), ("key", 1, 11, LEAST), ("seal", 1, 1, 1), *filled(1, 31),
                ("hand", 2, 0), ("send", 0, 0, 2), *filled(2, 31)]
        told = ask(*full, ("send", 0, 9, 1), ("send", 0, 0, 1), ("send", 0, 9, 2), ("send", 0, 0, 2), ("drop", 2, 31),
                   ("send", 0, 0, 2), ("send", 0, 0, 2))
        self.assertEqual(told[len(full):], [[-5], [-2], [-5], [-3], [0], [0, 31], [-3]])

    def test_only_the_other_box_needs_room(self):
        full = [("key", 0, 11, FORM), ("hand", 1, 0), ("seal", 0, 3, 4), *filled(0, 31)]
        told = ask(*full, ("send", 0, 0, 1), ("send", 0, 0, 0), ("count", 0), ("count", 1))
        self.assertEqual(told[len(full):], [[0, 0], [-3], [0, 32], [0, 1]])

    def test_refused_changes_nothing(self):
        before = [("key", 0, 11, FORM), ("seal", 0, 3, 4), ("key", 1, 11, LEAST), ("seal", 1, 1, 1)]
        refused = [("send", 0, 0, 1), ("send", 1, 0, 0), ("send", 0, 1, 0), ("send", 0, 0, 2)]
        told = ask(*before, *refused, *looks(0, 2), *looks(1, 2))
        self.assertEqual(told[4:8], [[-2], [-2], [-5], [-4]])
        self.assertEqual(told[8:], ask(*before, *looks(0, 2), *looks(1, 2))[4:])


if __name__ == "__main__":
    unittest.main()
