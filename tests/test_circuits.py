"""The calls judge (29) and plain (30), and the faults of a circuit's bytes, which circuit (28) tells too."""

import random
import unittest

from helper import ADDER, DEEP, GREATEST, NONE, ask, circuit_bytes, drawn, last, low, open_circuit

# Three wires come in; x and y of its gates are as high as may be once, and so is an out.
GATES = ((6, 0, 1), (8, 3, 2), (15, 4, 4), (0, 0, 5))
OUTS = (6, 0, 3, 5)


class Faults(unittest.TestCase):
    """The place of the fault, which all three calls tell alike."""

    def judged(self, m, row):
        told = ask(("key", 0, 1, DEEP), ("seal", 0, 1, 1), ("judge", m, row), ("plain", [0] * m, row),
                   ("circuit", 0, [0] * m, row), ("uses", 0), ("count", 0))
        if told[2][0] == -9:
            self.assertEqual(told[2:], [told[2]] * 3 + [[0, 0], [0, 1]])
        return told[2]

    def test_none(self):
        self.assertEqual(self.judged(3, circuit_bytes(GATES, OUTS)), [0, 4, 4])
        self.assertEqual(self.judged(0, NONE), [0, 0, 0])
        self.assertEqual(self.judged(16, NONE), [0, 0, 0])

    def test_something_missing(self):
        row = circuit_bytes(GATES, OUTS)
        for many in range(len(row)):
            self.assertEqual(self.judged(3, row[:many]), [-9, many])

    def test_too_many_bytes(self):
        for gates, outs in ((GATES, OUTS), ((), ()), (GATES, ()), ((), (2, 1))):
            row = circuit_bytes(gates, outs)
            for more in ([0], [255], [0, 0], [1] * 40):
                self.assertEqual(self.judged(3, row + more), [-9, len(row)])

    def test_how_many_gates(self):
        for head in ([65, 0], [255, 0], [0, 1], [64, 1], [255, 255]):
            for rest in ([], [0], [0, 0], [17, 0], [255] * 20):
                self.assertEqual(self.judged(3, head + rest), [-9, 0])
        self.assertEqual(self.judged(3, [65]), [-9, 1])
        self.assertEqual(self.judged(3, [64, 0]), [-9, 2])
        self.assertEqual(self.judged(3, [64, 0, 16, 0]), [-9, 4])
        self.assertEqual(self.judged(3, []), [-9, 0])

    def test_64_and_65_gates(self):
        for many, answer in ((63, [0, 63, 1]), (64, [0, 64, 1]), (65, [-9, 0])):
            row = circuit_bytes([(9, i, 0) for i in range(many)], (many,))
            self.assertEqual(last(("judge", 1, row)), answer)
            self.assertEqual(last(("plain", [1], row))[0], answer[0])

    def test_how_many_outs(self):
        for head in ([0, 0, 17, 0], [0, 0, 0, 1], [0, 0, 16, 1], [1, 0, 255, 255], [64, 0, 17, 0]):
            for rest in ([], [16], [255] * 40):
                self.assertEqual(self.judged(3, head + rest), [-9, 2])
        self.assertEqual(self.judged(3, [0, 0, 17]), [-9, 3])
        for many, answer in ((15, [0, 0, 15]), (16, [0, 0, 16]), (17, [-9, 2])):
            self.assertEqual(self.judged(3, circuit_bytes((), [2] * many)), answer)

    def test_kinds(self):
        for kind in (16, 17, 128, 255):
            for place in range(4):
                row = circuit_bytes(GATES, OUTS)
                row[4 + 5 * place] = kind
                self.assertEqual(self.judged(3, row), [-9, 4 + 5 * place])
                self.assertEqual(self.judged(3, row[:5 + 5 * place]), [-9, 4 + 5 * place])
        for kind in range(16):
            self.assertEqual(self.judged(3, circuit_bytes([(kind, 0, 1)], ())), [0, 1, 0])

    def test_a_gate_s_wires(self):
        for m in (1, 2, 3, 16):
            for i in range(4):
                for side in (0, 1):
                    for wire in (m + i - 1, m + i, m + i + 1, 256, 256 * (m + i), 65535):
                        gates = [[6, 0, 0] for _ in range(4)]
                        gates[i][1 + side] = wire
                        row = circuit_bytes(gates, (0,))
                        place = 4 + 5 * i + 1 + 2 * side
                        answer = [0, 4, 1] if wire < m + i else [-9, place]
                        self.assertEqual(last(("judge", m, row)), answer)
                        if wire >= m + i:
                            self.assertEqual(self.judged(m, row[:place + 2]), [-9, place])
                            self.assertEqual(self.judged(m, row[:place + 1]), [-9, place + 1])

    def test_an_out_s_wire(self):
        for m, gates in ((1, ()), (3, GATES), (16, GATES)):
            for out in range(3):
                for wire in (m + len(gates) - 1, m + len(gates), 256, 65535):
                    outs = [0, 0, 0]
                    outs[out] = wire
                    row = circuit_bytes(gates, outs)
                    place = 4 + 5 * len(gates) + 2 * out
                    answer = [0, len(gates), 3] if wire < m + len(gates) else [-9, place]
                    self.assertEqual(last(("judge", m, row)), answer)
                    if wire >= m + len(gates):
                        self.assertEqual(self.judged(m, row[:place + 1]), [-9, place + 1])
                        self.assertEqual(self.judged(m, row + [0]), [-9, place])

    def test_no_wire_comes_in(self):
        self.assertEqual(self.judged(0, circuit_bytes([(0, 0, 0)], ())), [-9, 5])
        self.assertEqual(self.judged(0, circuit_bytes((), (0,))), [-9, 4])

    def test_the_first_of_several(self):
        row = circuit_bytes([(16, 9, 9), (16, 9, 9)], (9, 9)) + [0]
        for place, size, right in ((4, 1, 15), (5, 2, 0), (7, 2, 0), (9, 1, 15), (10, 2, 1), (12, 2, 1), (14, 2, 2),
                                   (16, 2, 2)):
            self.assertEqual(self.judged(1, row), [-9, place])
            row[place:place + size] = low(right, size)
        self.assertEqual(self.judged(1, row), [-9, 18])
        self.assertEqual(self.judged(1, row[:18]), [0, 2, 2])

    def test_how_many_come_in_counts(self):
        row = circuit_bytes([(6, 4, 2)], (5,))
        self.assertEqual([last(("judge", m, row)) for m in range(6)],
                         [[-9, 5]] * 5 + [[0, 1, 1]])


class Judge(unittest.TestCase):
    def test_how_many_wires(self):
        for m in (16, 17, 18, GREATEST):
            told = ask(("judge", m, NONE), ("judge", m, [65, 0]))
            self.assertEqual(told, [[0, 0, 0], [-9, 0]] if m == 16 else [[-1], [-1]])

    def test_counts(self):
        luck = random.Random(6)
        for gates in (0, 1, 5, 64):
            for outs in (0, 1, 9, 16):
                row = circuit_bytes(*drawn(luck, 4, gates, outs))
                self.assertEqual(last(("judge", 4, row)), [0, gates, outs])

    def test_needs_no_box(self):
        self.assertEqual(ask(("told", 0), ("judge", 3, circuit_bytes(GATES, OUTS))), [[-4], [0, 4, 4]])


class Plain(unittest.TestCase):
    def test_all_kinds_on_all_bits(self):
        for kind in range(16):
            for x in (0, 1):
                for y in (0, 1):
                    told = last(("plain", [x, y], circuit_bytes([(kind, 0, 1)], (2, 0, 1, 2))))
                    bit = kind >> (x + 2 * y) & 1
                    self.assertEqual(told, [0, bit, x, y, bit])

    def test_written_out(self):
        # Kind 2 is bit 1 alone: x and not y. Kind 4 is bit 2 alone: y and not x.
        self.assertEqual(last(("plain", [1, 0], circuit_bytes([(2, 0, 1), (4, 0, 1)], (2, 3)))), [0, 1, 0])
        self.assertEqual(last(("plain", [0, 1], circuit_bytes([(2, 0, 1), (4, 0, 1)], (2, 3)))), [0, 0, 1])

    def test_an_adder(self):
        for number in range(8):
            bits = [number & 1, number >> 1 & 1, number >> 2]
            total = sum(bits)
            self.assertEqual(last(("plain", bits, circuit_bytes(*ADDER))), [0, total & 1, total >> 1])

    def test_circuits_by_luck(self):
        luck = random.Random(7)
        for m in (1, 2, 5, 16):
            for gates in (0, 1, 12, 64):
                for outs in (0, 1, 16):
                    circuit = drawn(luck, m, gates, outs)
                    bits = [luck.randrange(2) for _ in range(m)]
                    told = last(("plain", bits, circuit_bytes(*circuit)))
                    self.assertEqual(told, [0] + open_circuit(bits, *circuit))

    def test_no_bits(self):
        self.assertEqual(last(("plain", [], NONE)), [0])

    def test_how_many_bits(self):
        for many in (16, 17, 18, 100):
            row = circuit_bytes((), (15,))
            told = ask(("plain", [1] * many, row), ("plain", [1] * many, [65, 0]))
            self.assertEqual(told, [[0, 1], [-9, 0]] if many == 16 else [[-1], [-1]])

    def test_only_bits(self):
        for wrong in (2, 3, GREATEST):
            for place in range(3):
                bits = [1, 0, 1]
                bits[place] = wrong
                told = ask(("plain", bits, circuit_bytes(GATES, OUTS)), ("plain", bits, [65, 0]))
                self.assertEqual(told, [[-1], [-1]])


if __name__ == "__main__":
    unittest.main()
