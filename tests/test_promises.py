"""The points 1, 3 and 4 of the promises; point 2 is looked at by the long lists."""

import random
import unittest

from helper import (ADDER, DEEP, DEEPS, FORM, LEAST, MOST, ask, circuit_bytes, greatest_sure, keys_of, last, looked_up,
                    octets, open_circuit)

FORMS = DEEPS + (FORM, LEAST, [2, 8, 2, 4, 8, 14, 1, 3], [1, 16, 4, 3, 8, 5, 3, 127])


class FirstPoint(unittest.TestCase):
    def test_near_enough_a_seal_opens_to_its_number(self):
        for form in (LEAST, FORM, DEEPS[3], MOST):
            keys, step = keys_of(3, form), 32768 // form[2]
            hiding = [(50000 + 777 * i) % 65536 for i in range(form[0])]
            hidden = sum(x for x, bit in zip(hiding, keys.s) if bit)
            for j in range(2 * form[2]):
                for off in (1 - step // 2, -1, 0, 1, step // 2 - 1):
                    row = octets(hiding + [(hidden + j * step + off) % 65536])
                    told = ask(("key", 0, 3, form), ("read", 0, 32768, row), ("open", 0, 0), ("off", 0, 0, j))
                    self.assertEqual(told[2:], [[0, j], [0, off]])

    def test_a_new_one_is_off_by_its_luck_alone(self):
        for form in FORMS:
            for seed in range(30):
                j = seed % (2 * form[2])
                self.assertEqual(last(("key", 0, 3, form), ("seal", 0, j, seed), ("off", 0, 0, j)),
                                 [0, keys_of(3, form).seal_off(seed)])

    def test_sums_are_off_by_no_more_than_all_together(self):
        luck = random.Random(9)
        for form in (FORM, DEEP, [1, 16, 4, 3, 8, 5, 3, 127]):
            whole = 2 * form[2]
            for _ in range(20):
                numbers, factors = [luck.randrange(whole) for _ in range(4)], [luck.randrange(-9, 10) for _ in range(4)]
                total = sum(x * y for x, y in zip(numbers, factors)) % whole
                told = ask(("key", 0, 3, form), *[("seal", 0, j, luck.randrange(999)) for j in numbers],
                           ("mix", 0, [0, 1, 2, 3], factors), ("off", 0, 4, total),
                           *[("off", 0, h, j) for h, j in enumerate(numbers)])
                offs = [answer[1] for answer in told[7:]]
                self.assertEqual(told[6][1], sum(x * y for x, y in zip(offs, factors)))

    def test_what_is_sure_comes_out_as_the_table_has_it(self):
        luck = random.Random(10)
        for form in DEEPS:
            keys, p = keys_of(3, form), form[2]
            for _ in range(6):
                j, g = luck.randrange(2 * p), [luck.randrange(2 * p) for _ in range(p)]
                sure = greatest_sure(form)
                hiding = [luck.randrange(65536) for _ in range(form[0])]
                hidden = sum(x for x, bit in zip(hiding, keys.s) if bit)
                row = octets(hiding + [(hidden + j * 32768 // p + luck.randint(-sure, sure)) % 65536])
                told = ask(("key", 0, 3, form), ("read", 0, sure, row), ("sure", 0, 0), ("table", 0, 0, g),
                           ("open", 0, 1), ("off", 0, 1, looked_up(g, j)), ("bound", 0, 1))
                self.assertEqual(told[2:5], [[0, 1], [0, 1], [0, looked_up(g, j)]])
                self.assertLessEqual(abs(told[5][1]), told[6][1])


class ThirdPoint(unittest.TestCase):
    def test_a_circuit_run_by_the_working_part_alone(self):
        # The part itself goes over as bytes, and so do the seals.
        for number in range(8):
            bits = [number & 1, number >> 1 & 1, number >> 2]
            row = circuit_bytes(*ADDER)
            keys = keys_of(3, DEEP)
            reads = [("read", 1, 1, keys.seal(bit, 20 + i)) for i, bit in enumerate(bits)]
            made = ask(("take", 1, keys.part()), *reads, ("circuit", 1, [0, 1, 2], row), ("write", 1, 3),
                       ("write", 1, 4))
            told = ask(("key", 0, 3, DEEP), ("read", 0, 0, made[5][1:]), ("read", 0, 0, made[6][1:]), ("open", 0, 0),
                       ("open", 0, 1), ("plain", bits, row))
            self.assertEqual(told[3] + told[4][1:], told[5])
            self.assertEqual(told[5], [0] + open_circuit(bits, *ADDER))


class FourthPoint(unittest.TestCase):
    def test_handed_over_is_given_and_taken(self):
        for form in (DEEP, FORM, LEAST):
            part = last(("key", 0, 3, form), ("give", 0))[1:]
            seal = keys_of(3, form).seal(1, 7)
            after = [("told", 1), ("give", 1), ("read", 1, 5, seal), ("table", 1, 0, [1] * form[2]), ("write", 1, 1),
                     ("bound", 1, 1), ("uses", 1), ("count", 1), ("seal", 1, 0, 0), ("open", 1, 0)]
            handed = ask(("key", 0, 3, form), ("hand", 1, 0), *after)
            taken = ask(("key", 0, 3, form), ("take", 1, part), *after)
            self.assertEqual(handed, taken)
            self.assertEqual(handed[5], [0, 1])

    def test_written_and_read_with_its_bound_is_sent(self):
        for form in (DEEP, FORM, LEAST, MOST):
            before = [("key", 0, 3, form), ("seal", 0, 1, 7), ("times", 0, 0, -3), ("hand", 1, 0)]
            row, bound = ask(*before, ("write", 0, 1), ("bound", 0, 1))[4:]
            after = [("write", 1, 0), ("bound", 1, 0), ("sure", 1, 0), ("count", 1), ("count", 0), ("send", 1, 0, 0),
                     ("off", 0, 2, 0)]
            sent = ask(*before, ("send", 0, 1, 1), *after)
            read = ask(*before, ("read", 1, bound[1], row[1:]), *after)
            self.assertEqual(sent, read)
            self.assertEqual(sent[4], [0, 0])


if __name__ == "__main__":
    unittest.main()
