"""The call gate (27), the refusals of table (26) and gate in their order, and how many uses there may be."""

import unittest

from helper import (DEEP, DEEPS, FORM, GREATEST, LEAST, ask, filled, gate_table, keys_of, looked_up, looks, octets,
                    summed, table_bound, words)


class Gate(unittest.TestCase):
    def test_all_kinds_on_all_bits(self):
        for kind in range(16):
            for x in (0, 1):
                for y in (0, 1):
                    told = ask(("key", 0, 11, DEEP), ("seal", 0, x, 60 + kind), ("seal", 0, y, 80 + kind),
                               ("gate", 0, kind, 0, 1), ("open", 0, 2), ("write", 0, 2), ("bound", 0, 2), ("uses", 0))
                    self.assertEqual(told[3:5], [[0, 2], [0, kind >> (x + 2 * y) & 1]], (kind, x, y))
                    self.assertEqual(told[5][1:], self.made(DEEP, kind, x, 60 + kind, y, 80 + kind))
                    self.assertEqual(told[6:], [[0, 545], [0, 1]])

    def made(self, form, kind, x, first, y, second):
        keys = keys_of(11, form)
        total = summed([words(keys.seal(x, first)), words(keys.seal(y, second))], (1, 2))
        return octets(keys.through(total, gate_table(kind, form[2])))

    def test_other_forms(self):
        for form in DEEPS[1:] + (FORM, [3, 32, 4, 1, 1, 2, 8, 1]):
            for kind, x, y in ((6, 0, 1), (6, 1, 1), (8, 1, 1), (2, 1, 0), (4, 0, 1), (11, 1, 0)):
                told = ask(("key", 0, 11, form), ("seal", 0, x, 5), ("seal", 0, y, 6), ("gate", 0, kind, 0, 1),
                           ("write", 0, 2), ("open", 0, 2))
                self.assertEqual(told[3:5], [[0, 2], [0] + self.made(form, kind, x, 5, y, 6)], (form, kind))
                if table_bound(form) < 16384 // form[2]:
                    self.assertEqual(told[5], [0, kind >> (x + 2 * y) & 1])

    def test_numbers_that_are_no_bits(self):
        for form in (DEEP, DEEPS[3]):
            whole = 2 * form[2]
            for x in range(whole):
                y, kind = (3 * x + 1) % whole, (7 * x + 5) % 16
                told = ask(("key", 0, 11, form), ("seal", 0, x, 5), ("seal", 0, y, 6), ("gate", 0, kind, 0, 1),
                           ("open", 0, 2))
                self.assertEqual(told[4], [0, looked_up(gate_table(kind, form[2]), (x + 2 * y) % whole)])

    def test_of_one_seal(self):
        for x in (0, 1):
            told = ask(("key", 0, 11, DEEP), ("seal", 0, x, 5), ("gate", 0, 7, 0, 0), ("gate", 0, 8, 0, 0),
                       ("open", 0, 1), ("open", 0, 2))
            self.assertEqual(told[4:], [[0, 1 - x], [0, x]])

    def test_gates_on_gates(self):
        told = ask(("key", 0, 11, DEEP), ("seal", 0, 1, 5), ("seal", 0, 0, 6),
                   *[("gate", 0, 7, h, h + 1) for h in range(11)], *[("open", 0, h) for h in range(13)])
        bits = [1, 0]
        for _ in range(11):
            bits.append(1 - bits[-1] * bits[-2])
        self.assertEqual(told[14:], [[0, bit] for bit in bits])

    def test_kinds(self):
        for kind in (15, 16, 17, 255, GREATEST):
            told = ask(("key", 0, 11, DEEP), ("seal", 0, 1, 5), ("gate", 0, kind, 0, 0), ("count", 0), ("uses", 0))
            self.assertEqual(told[2:], [[0, 1], [0, 2], [0, 1]] if kind == 15 else [[-1], [0, 1], [0, 0]])

    def test_p_2_has_no_gates(self):
        for form in (LEAST, [1, 32, 2, 4, 8, 16, 1, 0]):
            told = ask(("key", 0, 11, form), ("seal", 0, 1, 5), ("gate", 0, 0, 0, 0), ("gate", 0, 15, 9, 9),
                       ("count", 0), ("uses", 0))
            self.assertEqual(told[2:], [[-1], [-1], [0, 1], [0, 0]])

    def test_just_sure_and_just_not(self):
        seal = [0] * 4
        for x, y, answer in ((1, 1535, [0, 2]), (2, 1535, [-8]), (3071, 0, [0, 2]), (3072, 0, [-8]), (0, 1536, [-8]),
                             (1023, 1024, [0, 2]), (1024, 1024, [-8]), (1535, 1, [0, 2]), (32768, 32768, [-8])):
            told = ask(("key", 0, 11, DEEP), ("read", 0, x, seal), ("read", 0, y, seal), ("gate", 0, 9, 0, 1),
                       ("uses", 0), ("count", 0))
            made = len(answer) - 1
            self.assertEqual(told[3:], [answer, [0, made], [0, 2 + made]], (x, y))

    def test_either_seal_missing(self):
        for h, i in ((0, 1), (1, 0), (1, 1), (0, 32), (GREATEST, 0)):
            told = ask(("key", 0, 11, DEEP), ("seal", 0, 1, 5), ("gate", 0, 9, h, i), ("uses", 0), ("count", 0))
            self.assertEqual(told[2:], [[-5], [0, 0], [0, 1]])


class Refused(unittest.TestCase):
    """The refusals of both in their order, and the uses that there may be."""

    def test_of_a_box(self):
        for call in (("table", 0, [0] * 4), ("table", 9, [9]), ("gate", 0, 0, 0), ("gate", 16, 9, 9)):
            for k, refusal in ((1, -4), (2, -4), (3, -1), (GREATEST, -1)):
                told = ask(("key", 0, 11, FORM), ("seal", 0, 1, 1), call[:1] + (k,) + call[1:], ("uses", 0))
                self.assertEqual(told[2:], [[refusal], [0, 0]])

    def test_the_order_of_table_s(self):
        full = [("key", 0, 11, FORM), ("read", 0, 32768, [1] * 6), ("seal", 0, 1, 1), *filled(0, 30), ("cap", 0, 0)]
        wrong = [("table", 0, 32, [8] * 3), ("table", 0, 32, [8] * 5), ("table", 0, 32, [0, 0, 0, 8]),
                 ("table", 0, 32, [0] * 4), ("table", 0, 0, [0] * 4), ("drop", 0, 31), ("table", 0, 0, [0] * 4),
                 ("cap", 0, 1), ("table", 0, 0, [0] * 4), ("uses", 0), ("count", 0), ("table", 0, 1, [0] * 4)]
        told = ask(*full, *wrong)
        self.assertEqual(told[len(full):], [[-2], [-2], [-1], [-5], [-3], [0], [-7], [0], [-8], [0, 0], [0, 31],
                                            [0, 31]])

    def test_the_order_of_gate_s(self):
        full = [("key", 0, 11, FORM), ("read", 0, 32768, [1] * 6), ("seal", 0, 1, 1), *filled(0, 30), ("cap", 0, 0)]
        wrong = [("gate", 0, 16, 32, 32), ("gate", 0, 15, 32, 0), ("gate", 0, 15, 0, 32), ("gate", 0, 15, 0, 1),
                 ("drop", 0, 31), ("gate", 0, 15, 0, 1), ("cap", 0, 1), ("gate", 0, 15, 0, 1), ("gate", 0, 15, 1, 0),
                 ("uses", 0), ("count", 0), ("gate", 0, 15, 1, 1)]
        told = ask(*full, *wrong)
        self.assertEqual(told[len(full):], [[-1], [-5], [-5], [-3], [0], [-7], [0], [-8], [-8], [0, 0], [0, 31],
                                            [0, 31]])

    def test_refused_changes_nothing(self):
        full = [("key", 0, 11, FORM), ("seal", 0, 1, 1), *filled(0, 31)]
        wrong = [("table", 0, 0, [0] * 3), ("table", 0, 0, [8] * 4), ("table", 0, 32, [0] * 4),
                 ("table", 0, 0, [0] * 4), ("gate", 0, 16, 0, 0), ("gate", 0, 0, 0, 32), ("gate", 0, 0, 0, 0)]
        told = ask(*full, *wrong, *looks(0))
        self.assertEqual(told[len(full):len(full) + 7], [[-2], [-1], [-5], [-3], [-1], [-5], [-3]])
        self.assertEqual(told[len(full) + 7:], ask(*full, *looks(0))[len(full):])

    def test_a_refused_use_changes_nothing(self):
        some = [("key", 0, 11, FORM), ("seal", 0, 1, 1), ("times", 0, 0, 127), ("times", 0, 1, 127), ("cap", 0, 0)]
        wrong = [("table", 0, 0, [0] * 4), ("gate", 0, 1, 0, 0), ("cap", 0, 1), ("table", 0, 2, [0] * 4),
                 ("gate", 0, 1, 0, 2)]
        told = ask(*some, *wrong, *looks(0, 4))
        self.assertEqual(told[5:10], [[-7], [-7], [0], [-8], [-8]])
        self.assertEqual(told[10:], ask(*some, *looks(0, 4))[5:])


class Cap(unittest.TestCase):
    """How many uses there may be."""

    USE = ("table", 0, 0, [1, 2, 3, 4])

    def after(self, *calls):
        return ask(("key", 0, 11, FORM), ("seal", 0, 1, 1), *calls)[2:]

    def test_just_reached(self):
        told = self.after(("cap", 0, 3), self.USE, ("gate", 0, 6, 0, 0), self.USE, ("uses", 0), self.USE,
                          ("gate", 0, 6, 0, 0), ("uses", 0), ("count", 0))
        self.assertEqual(told, [[0], [0, 1], [0, 2], [0, 3], [0, 3], [-7], [-7], [0, 3], [0, 4]])

    def test_none_at_first(self):
        told = self.after(*[self.USE] * 6, *[("gate", 0, 6, 0, 0)] * 6, ("uses", 0))
        self.assertEqual(told, [[0, h] for h in range(1, 13)] + [[0, 12]])

    def test_uses_from_the_box_s_beginning_count(self):
        told = self.after(self.USE, self.USE, ("cap", 0, 2), self.USE, ("cap", 0, 3), self.USE, self.USE)
        self.assertEqual(told, [[0, 1], [0, 2], [0], [-7], [0], [0, 3], [-7]])

    def test_set_below_the_uses(self):
        told = self.after(self.USE, self.USE, ("cap", 0, 1), self.USE, ("uses", 0), ("cap", 0, 0),
                          ("gate", 0, 6, 0, 0), ("uses", 0), ("cap", 0, GREATEST), self.USE, ("uses", 0))
        self.assertEqual(told, [[0, 1], [0, 2], [0], [-7], [0, 2], [0], [-7], [0, 2], [0], [0, 3], [0, 3]])

    def test_begun_anew_there_is_none(self):
        told = self.after(self.USE, ("cap", 0, 1), ("key", 0, 11, FORM), ("seal", 0, 1, 1), ("uses", 0), self.USE,
                          self.USE, ("uses", 0))
        self.assertEqual(told[4:], [[0, 0], [0, 1], [0, 2], [0, 2]])

    def test_is_not_handed_on(self):
        told = self.after(("cap", 0, 0), self.USE, ("hand", 1, 0), ("send", 0, 0, 1), ("table", 1, 0, [1, 2, 3, 4]),
                          ("uses", 1), ("uses", 0))
        self.assertEqual(told, [[0], [-7], [0], [0, 0], [0, 1], [0, 1], [0, 0]])

    def test_no_other_call_is_a_use(self):
        told = self.after(("cap", 0, 0), ("add", 0, 0, 0), ("sub", 0, 0, 0), ("times", 0, 0, 3), ("plus", 0, 0, 3),
                          ("mix", 0, [0], [1, 2]), ("send", 0, 0, 0), ("read", 0, 0, [0] * 6), ("sure", 0, 0),
                          ("drop", 0, 1), ("uses", 0))
        self.assertEqual(told[1:], [[0, 1], [0, 2], [0, 3], [0, 4], [0, 5, 6], [0, 7], [0, 8], [0, 1], [0], [0, 0]])


if __name__ == "__main__":
    unittest.main()
