"""The call circuit (28)."""

import random
import unittest

from helper import (ADDER, DEEP, DEEPS, FORM, GREATEST, LEAST, NONE, ask, circuit_bytes, drawn, filled, gate_table,
                    greatest_sure, keys_of, last, looks, octets, open_circuit, summed, table_bound, words)


class Circuit(unittest.TestCase):
    def run_by_working_part(self, form, bits, gates, outs):
        """What is opened, and each out's bytes and bound, of a circuit run in box 1, which has no secrets."""
        m, many = len(bits), len(outs)
        calls = [("key", 0, 11, form), ("hand", 1, 0)]
        calls += [("seal", 0, bit, 70 + i) for i, bit in enumerate(bits)]
        calls += [("send", 0, i, 1) for i in range(m)]
        calls += [("circuit", 1, list(range(m)), circuit_bytes(gates, outs)), ("uses", 1), ("uses", 0), ("count", 1)]
        told = ask(*calls, *[("send", 1, m + i, 0) for i in range(many)], *[("open", 0, m + i) for i in range(many)],
                   *[("write", 1, m + i) for i in range(many)], *[("bound", 1, m + i) for i in range(many)])
        at = 2 + 2 * m
        self.assertEqual(told[at], [0] + list(range(m, m + many)))
        self.assertEqual(told[at + 1:at + 4], [[0, len(gates)], [0, 0], [0, m + many]])
        at += 4 + many
        self.assertTrue(all(len(answer) == 2 for answer in told[at:at + many]))
        return [answer[1] for answer in told[at:at + many]], told[at + many:at + 2 * many], told[at + 2 * many:]

    def expected(self, form, bits, gates, outs):
        """The outs' bytes and bounds."""
        keys = keys_of(11, form)
        wires = [words(keys.seal(bit, 70 + i)) for i, bit in enumerate(bits)]
        bounds = [form[7]] * len(bits)
        for kind, x, y in gates:
            wires.append(keys.through(summed([wires[x], wires[y]], (1, 2)), gate_table(kind, form[2])))
            bounds.append(table_bound(form))
        return [[0] + octets(wires[out]) for out in outs], [[0, bounds[out]] for out in outs]

    def test_as_the_open_circuit(self):
        luck = random.Random(8)
        for form in DEEPS:
            for m, gates, outs in ((1, 1, 1), (2, 3, 4), (3, 5, 16), (5, 12, 12)):
                bits = [luck.randrange(2) for _ in range(m)]
                circuit = drawn(luck, m, gates, outs)
                made, row, bounds = self.run_by_working_part(form, bits, *circuit)
                self.assertEqual(made, open_circuit(bits, *circuit))
                self.assertEqual((row, bounds), self.expected(form, bits, *circuit), (form, circuit))

    def test_an_adder(self):
        for number in range(8):
            bits = [number & 1, number >> 1 & 1, number >> 2]
            made = self.run_by_working_part(DEEP, bits, *ADDER)[0]
            self.assertEqual(made, [sum(bits) & 1, sum(bits) >> 1])
            self.assertEqual([0] + made, last(("plain", bits, circuit_bytes(*ADDER))))

    def test_a_gate_is_a_circuit(self):
        told = ask(("key", 0, 11, DEEP), ("seal", 0, 1, 1), ("seal", 0, 0, 2), ("gate", 0, 11, 0, 1),
                   ("circuit", 0, [0, 1], circuit_bytes([(11, 0, 1)], (2,))), ("write", 0, 2), ("write", 0, 3),
                   ("bound", 0, 2), ("bound", 0, 3), ("uses", 0))
        self.assertEqual(told[4], [0, 3])
        self.assertEqual([told[5], told[7]], [told[6], told[8]])
        self.assertEqual(told[9], [0, 2])

    def test_seals_by_their_wires(self):
        told = ask(("key", 0, 11, DEEP), ("seal", 0, 5, 1), ("seal", 0, 6, 2), ("seal", 0, 7, 3),
                   ("circuit", 0, [2, 0, 2], circuit_bytes((), (0, 1, 2, 1))), *[("open", 0, h) for h in range(3, 7)],
                   ("uses", 0), ("count", 0))
        self.assertEqual(told[4:], [[0, 3, 4, 5, 6], [0, 7], [0, 5], [0, 7], [0, 5], [0, 0], [0, 7]])

    def test_16_and_17_seals(self):
        for many in (16, 17):
            told = ask(("key", 0, 11, DEEP), ("seal", 0, 1, 1), ("circuit", 0, [0] * many, circuit_bytes((), (15,))),
                       ("circuit", 0, [0] * many, circuit_bytes([(15, 15, 15)], (16,))), ("count", 0), ("uses", 0))
            self.assertEqual(told[2:], [[0, 1], [0, 2], [0, 3], [0, 1]] if many == 16 else [[-1], [-1], [0, 1], [0, 0]])

    def test_16_outs(self):
        told = ask(("key", 0, 11, DEEP), ("seal", 0, 1, 1), ("circuit", 0, [0], circuit_bytes([(1, 0, 0)], [1, 0] * 8)),
                   *[("open", 0, h) for h in range(1, 17)])
        self.assertEqual(told[2:], [[0] + list(range(1, 17))] + [[0, 0], [0, 1]] * 8)

    def test_64_gates(self):
        # More than a line may have, but as many as a circuit may: each turns the bit over.
        row = circuit_bytes([(5, i, i) for i in range(64)], (64, 63))
        told = ask(("key", 0, 11, DEEP), ("seal", 0, 1, 1), ("circuit", 0, [0], row), ("open", 0, 1), ("open", 0, 2),
                   ("uses", 0))
        self.assertEqual([0] + [told[3][1], told[4][1]], last(("plain", [1], row)))
        self.assertEqual(told[5], [0, 64])

    def test_nothing_at_all(self):
        told = ask(("key", 0, 11, DEEP), ("circuit", 0, [], NONE), ("count", 0), ("uses", 0))
        self.assertEqual(told[1:], [[0], [0, 0], [0, 0]])

    def test_put_into_the_gaps(self):
        told = ask(("key", 0, 11, DEEP), ("seal", 0, 1, 1), *filled(0, 9), ("drop", 0, 8), ("drop", 0, 2),
                   ("circuit", 0, [0], circuit_bytes([(0, 0, 0)], (0, 1, 0))), ("open", 0, 2), ("open", 0, 8),
                   ("open", 0, 10), ("bound", 0, 8))
        self.assertEqual(told[-5:], [[0, 2, 8, 10], [0, 1], [0, 0], [0, 1], [0, 545]])


class CircuitRefused(unittest.TestCase):
    BEGUN = (("key", 0, 11, DEEP), ("seal", 0, 1, 1))
    ONE = circuit_bytes([(6, 0, 0)], (1,))

    def test_of_a_box(self):
        for seals, row in (([0], self.ONE), ([0] * 17, [65, 0])):
            for k, refusal in ((1, -4), (2, -4), (3, -1), (GREATEST, -1)):
                told = ask(*self.BEGUN, ("circuit", k, seals, row), ("uses", 0))
                self.assertEqual(told[2:], [[refusal], [0, 0]])

    def test_p_2_has_no_circuits(self):
        for row in (NONE, self.ONE, [65, 0]):
            told = ask(("key", 0, 11, LEAST), ("seal", 0, 1, 1), ("circuit", 0, [0], row), ("circuit", 0, [9], row),
                       ("uses", 0), ("count", 0))
            self.assertEqual(told[2:], [[-1], [-1], [0, 0], [0, 1]])

    def test_each_seal_missing(self):
        for place in range(3):
            for missing in (1, 31, 32, GREATEST):
                seals = [0, 0, 0]
                seals[place] = missing
                told = ask(*self.BEGUN, ("circuit", 0, seals, circuit_bytes([(6, 0, 0)], (0,))), ("uses", 0),
                           ("count", 0))
                self.assertEqual(told[2:], [[-5], [0, 0], [0, 1]])

    def test_room_for_all_outs(self):
        for free in (0, 1, 2, 15, 16):
            for outs in (0, 1, 2, 3, 15, 16):
                row = circuit_bytes([(6, 0, 0)], [1] * outs)
                told = ask(*self.BEGUN, *filled(0, 31 - free), ("circuit", 0, [0], row), ("count", 0), ("uses", 0))
                if outs <= free:
                    made = list(range(32 - free, 32 - free + outs))
                    self.assertEqual(told[-3:], [[0] + made, [0, 32 - free + outs], [0, 1]])
                else:
                    self.assertEqual(told[-3:], [[-3], [0, 32 - free], [0, 0]])

    def test_cap(self):
        three = circuit_bytes([(6, 0, 0), (6, 1, 0), (6, 1, 2)], (3,))
        for uses, most, answer in ((0, 3, [0, 1]), (0, 2, [-7]), (0, 0, [-7]), (2, 5, [0, 3]), (2, 4, [-7]),
                                   (2, 2, [-7]), (2, 1, [-7]), (2, GREATEST, [0, 3])):
            told = ask(*self.BEGUN, *[("gate", 0, 6, 0, 0)] * uses, ("cap", 0, most), ("circuit", 0, [0], three),
                       ("uses", 0), ("count", 0))
            made = len(answer) - 1
            self.assertEqual(told[-3:], [answer, [0, uses + 3 * made], [0, 1 + uses + made]], (uses, most))

    def test_without_gates_always(self):
        row = circuit_bytes((), (0, 0))
        for uses, most in ((0, 0), (2, 2), (2, 1), (2, 0)):
            told = ask(*self.BEGUN, *[("gate", 0, 6, 0, 0)] * uses, ("cap", 0, most), ("circuit", 0, [0], row),
                       ("uses", 0), ("circuit", 0, [0], self.ONE))
            self.assertEqual(told[-3:], [[0, 1 + uses, 2 + uses], [0, uses], [-7]])

    def test_circuits_and_gates_are_counted_together(self):
        told = ask(*self.BEGUN, ("cap", 0, 3), ("circuit", 0, [0], self.ONE), ("gate", 0, 6, 0, 0),
                   ("circuit", 0, [0], self.ONE), ("circuit", 0, [0], self.ONE), ("gate", 0, 6, 0, 0),
                   ("table", 0, 0, [0] * 4), ("uses", 0))
        self.assertEqual(told[3:], [[0, 1], [0, 2], [0, 3], [-7], [-7], [-7], [0, 3]])

    def test_just_sure_and_just_not(self):
        for x, y, answer in ((1, 1535, [0, 2]), (2, 1535, [-8]), (3071, 0, [0, 2]), (0, 1536, [-8]), (1535, 1, [0, 2])):
            told = ask(("key", 0, 11, DEEP), ("read", 0, x, [0] * 4), ("read", 0, y, [0] * 4),
                       ("circuit", 0, [0, 1], circuit_bytes([(9, 0, 1)], (2,))), ("uses", 0), ("count", 0))
            made = len(answer) - 1
            self.assertEqual(told[3:], [answer, [0, made], [0, 2 + made]], (x, y))

    def test_what_gates_make_counts(self):
        # 545 and twice 1263 are just sure, 545 and twice 1264 not; so are 1981 and twice 545, and 1982 not.
        for gates, bound, sure in (([(9, 0, 0), (9, 1, 0)], 1263, False), ([(9, 1, 1), (9, 2, 0)], 1263, True),
                                   ([(9, 1, 1), (9, 2, 0)], 1264, False), ([(9, 1, 1), (9, 0, 2)], 1981, True),
                                   ([(9, 1, 1), (9, 0, 2)], 1982, False), ([(9, 1, 1), (9, 2, 2)], 32768, True)):
            told = ask(("key", 0, 11, DEEP), ("read", 0, bound, [0] * 4), ("seal", 0, 1, 1),
                       ("circuit", 0, [0, 1], circuit_bytes(gates, (3,))), ("uses", 0), ("count", 0))
            self.assertEqual(told[3:], [[0, 2], [0, 2], [0, 3]] if sure else [[-8], [0, 0], [0, 2]], (gates, bound))

    def test_a_table_s_bound_that_isn_t_sure(self):
        self.assertLess(greatest_sure(FORM), table_bound(FORM))
        for gates, answer in (([(6, 0, 0), (6, 0, 0)], [0, 1]), ([(6, 0, 0), (6, 1, 0)], [-8]),
                              ([(6, 0, 0), (6, 0, 1)], [-8])):
            told = ask(("key", 0, 11, FORM), ("seal", 0, 1, 1), ("circuit", 0, [0], circuit_bytes(gates, (2,))),
                       ("uses", 0), ("count", 0))
            made = len(answer) - 1
            self.assertEqual(told[2:], [answer, [0, 2 * made], [0, 1 + made]])

    def test_every_gate_must_be_sure(self):
        # No out is on the wire of the gate that isn't sure.
        for gates in ([(6, 1, 1), (6, 0, 0)], [(6, 0, 0), (6, 1, 1)], [(6, 0, 1), (6, 0, 0)]):
            told = ask(("key", 0, 11, DEEP), ("seal", 0, 1, 1), ("read", 0, 32768, [0] * 4),
                       ("circuit", 0, [0, 1], circuit_bytes(gates, (0,))), ("uses", 0), ("count", 0))
            self.assertEqual(told[3:], [[-8], [0, 0], [0, 2]])

    def test_what_isn_t_used_needn_t_be_sure(self):
        told = ask(("key", 0, 11, DEEP), ("seal", 0, 1, 1), ("read", 0, 32768, [0] * 4),
                   ("circuit", 0, [0, 1], circuit_bytes([(6, 0, 0)], (1, 2))), ("bound", 0, 2), ("bound", 0, 3))
        self.assertEqual(told[3:], [[0, 2, 3], [0, 32768], [0, 545]])

    def test_the_order_of_refusals(self):
        full = [("key", 0, 11, DEEP), ("read", 0, 32768, [1] * 4), ("seal", 0, 1, 1), *filled(0, 30), ("cap", 0, 0)]
        wrong = [("circuit", 0, [32] * 17, [65, 0]), ("circuit", 0, [32] * 16, [65, 0]), ("circuit", 0, [32], self.ONE),
                 ("circuit", 0, [0], self.ONE), ("drop", 0, 31), ("circuit", 0, [0], self.ONE), ("cap", 0, 1),
                 ("circuit", 0, [0], self.ONE), ("uses", 0), ("count", 0), ("circuit", 0, [1], self.ONE), ("uses", 0)]
        told = ask(*full, *wrong)
        self.assertEqual(told[len(full):], [[-1], [-9, 0], [-5], [-3], [0], [-7], [0], [-8], [0, 0], [0, 31], [0, 31],
                                            [0, 1]])

    def test_refused_changes_nothing(self):
        full = [("key", 0, 11, DEEP), ("read", 0, 32768, [1] * 4), ("seal", 0, 1, 1), *filled(0, 29), ("cap", 0, 1)]
        two = circuit_bytes([(6, 0, 0), (6, 0, 0)], (0,))
        wrong = [("circuit", 0, [1] * 17, NONE), ("circuit", 0, [1], [1]), ("circuit", 0, [31], self.ONE),
                 ("circuit", 0, [1], circuit_bytes((), (0, 0))), ("circuit", 0, [1], two),
                 ("circuit", 0, [0], self.ONE)]
        told = ask(*full, *wrong, *looks(0))
        self.assertEqual(told[len(full):len(full) + 6], [[-1], [-9, 1], [-5], [-3], [-7], [-8]])
        self.assertEqual(told[len(full) + 6:], ask(*full, *looks(0))[len(full):])


if __name__ == "__main__":
    unittest.main()
