"""The call luck (3)."""

import unittest

from helper import GREATEST, GREATEST_SEED, ask, last, luck_bytes

SEEDS = (0, 1, 2, 255, 2 ** 32, 2 ** 63, GREATEST_SEED)


class Luck(unittest.TestCase):
    def test_written_out(self):
        # x is 1442695040888963407 first, and 20 times 2^56 is 1441151880758558720.
        self.assertEqual(last(("luck", 0, 0, 5)), [0, 20, 26, 154, 102, 98])
        # 6364136223846793005 + 1442695040888963407 is 7806831264735756412.
        self.assertEqual(last(("luck", 1, 0, 1)), [0, 7806831264735756412 // 2 ** 56])
        # The greatest seed is -1: 1442695040888963407 - 6364136223846793005 modulo 2^64.
        self.assertEqual(last(("luck", GREATEST_SEED, 0, 1)), [0, 13525302890751722018 // 2 ** 56])

    def test_x_at_the_edges_of_a_byte(self):
        back = pow(6364136223846793005, -1, 2 ** 64)
        for x in (0, 2 ** 56 - 1, 2 ** 56, 200 * 2 ** 56 - 1, 200 * 2 ** 56, 2 ** 64 - 1):
            seed = (x - 1442695040888963407) * back % 2 ** 64
            self.assertEqual(last(("luck", seed, 0, 1)), [0, x >> 56])

    def test_many_seeds(self):
        for seed in SEEDS:
            self.assertEqual(last(("luck", seed, 0, 100)), [0] + luck_bytes(seed, 100))

    def test_from_a_place_on(self):
        for seed in SEEDS:
            row = luck_bytes(seed, 400)
            for i in (1, 2, 99, 300):
                self.assertEqual(last(("luck", seed, i, 100)), [0] + row[i:i + 100])

    def test_no_bytes(self):
        self.assertEqual(ask(("luck", 5, 0, 0), ("luck", 5, 20000, 0)), [[0], [0]])

    def test_as_many_as_may_be(self):
        self.assertEqual(last(("luck", 5, 0, 100)), [0] + luck_bytes(5, 100))
        for m in (101, 102, GREATEST):
            self.assertEqual(last(("luck", 5, 0, m)), [-1])

    def test_as_far_as_may_be(self):
        row = luck_bytes(5, 20100)
        self.assertEqual(last(("luck", 5, 20000, 100)), [0] + row[20000:])
        for i in (20001, 20002, GREATEST):
            self.assertEqual(last(("luck", 5, i, 1)), [-1])
            self.assertEqual(last(("luck", 5, i, 0)), [-1])
            self.assertEqual(last(("luck", 5, i, 101)), [-1])


if __name__ == "__main__":
    unittest.main()
