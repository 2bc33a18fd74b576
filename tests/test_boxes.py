"""The calls cap (9) and uses (10), and what holds of every list of calls."""

import contextlib
import io
import unittest

from helper import ADDER, DEEP, FORM, GREATEST, GREATEST_SEED, LEAST, Keys, ask, circuit_bytes, flat, last, parted
from sealedbox.boxes import answers

LINE = flat(
    ("need", FORM), ("can", FORM), ("luck", 9, 3, 20), ("told", 0), ("key", 0, 5, FORM), ("seal", 0, 3, 8),
    ("open", 0, 0), ("off", 0, 0, 5), ("bound", 0, 0), ("write", 0, 0), ("hand", 1, 0), ("give", 1), ("cap", 1, 4),
    ("uses", 1), ("take", 2, [1, 2, 3]), ("key", 2, 6, []), ("take", 2, Keys(5, LEAST).part()), ("told", 2),
    ("key", 0, 5, DEEP), ("hand", 1, 0), ("seal", 0, 1, 8), ("send", 0, 0, 1), ("read", 1, 2, [7, 8, 9, 10]),
    ("add", 1, 0, 1), ("sub", 1, 0, 1), ("times", 1, 0, -3), ("plus", 1, 0, 5), ("mix", 1, [0, 2], [1, 2, -3, 4]),
    ("sure", 1, 5), ("drop", 1, 3), ("count", 1), ("table", 1, 0, [3, 2, 1, 0]), ("gate", 1, 6, 0, 3),
    ("circuit", 1, [0, 0, 3], circuit_bytes(*ADDER)), ("judge", 3, circuit_bytes(*ADDER)),
    ("plain", [1, 0, 1], circuit_bytes(*ADDER)), ("uses", 1), ("mix", 1, [], []), ("circuit", 1, [0], [1, 0, 1]),
    ("table", 1, 0, [9]), ("gate", 1, 16, 0, 0), ("send", 1, 29, 2), ("plain", [2], []), ("judge", 17, []),
)


class Watched(list):
    """A list that tells when it's changed, for a while only too."""

    def refuse(self, *rest):
        raise AssertionError("what is handed in was changed")

    append = extend = insert = pop = remove = reverse = sort = clear = refuse
    __setitem__ = __delitem__ = __iadd__ = __imul__ = refuse


class Cap(unittest.TestCase):
    def test_answers(self):
        for most in (0, 1, GREATEST):
            self.assertEqual(last(("key", 0, 1, LEAST), ("cap", 0, most)), [0])

    def test_touches_nothing_else(self):
        calls = (("told", 0), ("uses", 0), ("open", 0, 0), ("give", 0), ("seal", 0, 1, 2))
        told = ask(("key", 0, 1, LEAST), ("seal", 0, 1, 1), *calls[:4], ("cap", 0, 0), *calls)
        self.assertEqual(told[2:6], told[7:11])
        self.assertEqual(told[11], [0, 1])

    def test_of_a_box(self):
        told = ask(("cap", 0, 1), ("cap", 2, 1), ("cap", 3, 1), ("cap", GREATEST, 1), ("told", 0), ("told", 2))
        self.assertEqual(told, [[-4], [-4], [-1], [-1], [-4], [-4]])


class Uses(unittest.TestCase):
    def test_none_of_these_calls_is_a_use(self):
        told = ask(("key", 0, 1, LEAST), ("uses", 0), ("seal", 0, 1, 1), ("open", 0, 0), ("off", 0, 0, 1),
                   ("bound", 0, 0), ("write", 0, 0), ("give", 0), ("told", 0), ("cap", 0, 9), ("hand", 1, 0),
                   ("uses", 0), ("uses", 1))
        self.assertEqual([told[1]] + told[-2:], [[0, 0]] * 3)

    def test_tells_the_box_s_own(self):
        told = ask(("key", 0, 1, FORM), ("hand", 1, 0), ("seal", 0, 1, 1), *[("table", 0, 0, [1, 2, 3, 4])] * 3,
                   ("uses", 0), ("uses", 1))
        self.assertEqual(told[-2:], [[0, 3], [0, 0]])

    def test_of_a_box(self):
        self.assertEqual(ask(("uses", 0), ("uses", 2), ("uses", 3), ("uses", GREATEST)), [[-4], [-4], [-1], [-1]])


class Line(unittest.TestCase):
    def test_all_kinds_in_one_list(self):
        told = parted(answers(LINE))
        self.assertEqual(told[18:22], [[0], [0], [0, 0], [0, 0]])
        self.assertEqual(told[22:31], [[0, 1], [0, 2], [0, 3], [0, 4], [0, 5], [0, 6, 7], [0, 1], [0], [0, 7]])
        self.assertEqual(told[31:37], [[0, 3], [0, 8], [0, 9, 10], [0, 5, 2], [0, 0, 1], [0, 7]])
        self.assertEqual(told[37:], [[-1], [-9, 3], [-2], [-1], [-5], [-1], [-1]])

    def test_counts_stand_ahead_of_answers(self):
        line = [3, 0, 0, 2, 8, 1, 8, 3, 7, 0, 0, 4, 1, 0] + [8] + LEAST + [10, 1]
        self.assertEqual(answers(line), [3, 0, 20, 26, 1, -4, 1, -1, 2, -9, 0, 1, 0, 2, 0, 0])

    def test_rows_are_cut_by_their_counts(self):
        told = ask(("need", []), ("need", [12] * 100), ("can", [1]), ("take", 0, [4] * 31), ("need", LEAST))
        self.assertEqual(told, [[-1], [-1], [-1], [-9, 31], [0, 177, 320, 4]])

    def test_none_is_begun_at_first(self):
        told = ask(("told", 0), ("told", 1), ("told", 2), ("told", 3))
        self.assertEqual(told, [[-4], [-4], [-4], [-1]])

    def test_the_third_box_is_the_last(self):
        told = ask(("key", 2, 1, LEAST), ("told", 2), ("key", 3, 1, LEAST), ("told", 3), ("told", 0), ("told", 1))
        self.assertEqual(told, [[0], [0, 1] + LEAST, [-1], [-1], [-4], [-4]])

    def test_a_hundred_calls(self):
        told = ask(*[("luck", h, 20000, 1) for h in range(100)])
        self.assertEqual([len(answer) for answer in told], [2] * 100)

    def test_what_is_handed_in_stays(self):
        line = list(LINE)
        answers(line)
        self.assertEqual(line, LINE)

    def test_what_is_handed_in_is_never_changed(self):
        self.assertEqual(answers(Watched(LINE)), answers(LINE))

    def test_a_second_time_answers_the_same(self):
        first = answers(list(LINE))
        kept = list(first)
        other = ask(("key", 0, GREATEST_SEED, LEAST), ("seal", 0, 0, 0))
        self.assertEqual(other, [[0], [0, 0]])
        self.assertEqual(answers(list(LINE)), kept)
        first.clear()
        self.assertEqual(answers(list(LINE)), kept)

    def test_nothing_is_printed(self):
        printed = io.StringIO()
        with contextlib.redirect_stdout(printed), contextlib.redirect_stderr(printed):
            answers(list(LINE))
        self.assertEqual(printed.getvalue(), "")

    def test_nothing_is_kept(self):
        ask(("key", 0, 1, LEAST), ("hand", 1, 0), ("hand", 2, 0))
        self.assertEqual(ask(("told", 0), ("told", 1), ("told", 2)), [[-4]] * 3)


if __name__ == "__main__":
    unittest.main()
