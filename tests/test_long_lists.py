"""Long lists of calls of most kinds, against boxes that are kept in another way; and point 2 of the promises."""

import random
import unittest

from helper import (DEEPS, FORM, LEAST, ask, circuit_bytes, drawn, gate_table, greatest_sure, keys_of,
                    looked_up, octets, summed, table_bound, words)

SEEDS = (3, 4)
FORMS = DEEPS + (FORM, LEAST, [2, 8, 2, 4, 8, 14, 1, 3], [1, 16, 4, 3, 8, 5, 3, 127])


class Refused(Exception):
    pass


def need(so, number, *place):
    if not so:
        raise Refused([number, *place])


class Held:
    """A box: its keys, whether it has the secrets, its seals as (words, bound, number or None), uses and cap."""

    def __init__(self, keys, secret):
        self.keys, self.form, self.secret = keys, keys.form, secret
        self.p, self.seals, self.uses, self.most = keys.p, {}, 0, 1 << 40

    def at(self, *places):
        need(all(h in self.seals for h in places), -5)
        return [self.seals[h] for h in places]

    def put(self, *seals):
        free = [h for h in range(32) if h not in self.seals]
        need(len(free) >= len(seals), -3)
        self.seals.update(zip(free, seals))
        return [0] + free[:len(seals)]

    def room(self, many):
        need(len(self.seals) + many <= 32, -3)

    def mixed(self, seals, factors):
        numbers = [number for _, _, number in seals]
        known = None if None in numbers else sum(x * y for x, y in zip(numbers, factors)) % (2 * self.p)
        bound = min(32768, sum(abs(y) * bound for (_, bound, _), y in zip(seals, factors)))
        return summed([row for row, _, _ in seals], factors), bound, known

    def sent(self, seal, g):
        need(seal[1] <= greatest_sure(self.form), -8)
        known = None if seal[2] is None else looked_up(g, seal[2])
        return self.keys.through(seal[0], g), table_bound(self.form), known


class Model:
    """Answers calls by name, refusing by an error; what's put is put only at the very end of a call."""

    def __init__(self):
        self.boxes = {}

    def answer(self, name, *rest):
        try:
            return getattr(self, name)(*rest)
        except Refused as refused:
            return refused.args[0]

    def box(self, k):
        need(k < 3, -1)
        need(k in self.boxes, -4)
        return self.boxes[k]

    def key(self, k, seed, form):
        need(k < 3, -1)
        self.boxes[k] = Held(keys_of(seed, form), 1)
        return [0]

    def hand(self, k, j):
        need(k < 3, -1)
        self.boxes[k] = Held(self.box(j).keys, 0)
        return [0]

    def told(self, k):
        return [0, self.box(k).secret] + self.box(k).form

    def cap(self, k, most):
        self.box(k).most = most
        return [0]

    def uses(self, k):
        return [0, self.box(k).uses]

    def seal(self, k, j, seed):
        box = self.box(k)
        need(box.secret, -6)
        need(j < 2 * box.p, -1)
        return box.put((words(box.keys.seal(j, seed)), box.form[7], j))

    def open(self, k, h):
        box = self.box(k)
        need(box.secret, -6)
        step = 32768 // box.p
        return [0, (box.keys.phase(box.at(h)[0][0]) + step // 2) // step % (2 * box.p)]

    def off(self, k, h, j):
        box = self.box(k)
        need(box.secret, -6)
        need(j < 2 * box.p, -1)
        return [0, box.keys.off(box.at(h)[0][0], j)]

    def bound(self, k, h):
        return [0, self.box(k).at(h)[0][1]]

    def write(self, k, h):
        return [0] + octets(self.box(k).at(h)[0][0])

    def read(self, k, bound, row):
        box = self.box(k)
        need(bound <= 32768, -1)
        need(len(row) == 2 * box.form[0] + 2, -2)
        return box.put((words(row), bound, None))

    def send(self, k, h, j):
        box, other = self.box(k), self.box(j)
        seal, = box.at(h)
        need(box.form == other.form, -2)
        same = box.keys is other.keys
        return other.put(seal if same else seal[:2] + (None,))

    def drop(self, k, h):
        self.box(k).at(h)
        self.boxes[k].seals.pop(h)
        return [0]

    def count(self, k):
        return [0, len(self.box(k).seals)]

    def add(self, k, h, i):
        return self.mix(k, [h, i], [1, 1])

    def sub(self, k, h, i):
        return self.mix(k, [h, i], [1, -1])

    def times(self, k, h, c):
        return self.mix(k, [h], [c])

    def plus(self, k, h, j):
        box = self.box(k)
        need(j < 2 * box.p, -1)
        (row, bound, number), = box.at(h)
        moved = row[:-1] + [(row[-1] + j * 32768 // box.p) % 65536]
        return box.put((moved, bound, None if number is None else (number + j) % (2 * box.p)))

    def mix(self, k, seals, numbers):
        box = self.box(k)
        need(len(seals) in range(1, 9) and len(numbers) in [len(seals) * rows for rows in range(1, 9)], -1)
        need(all(x in range(-128, 128) for x in numbers), -1)
        seals = box.at(*seals)
        rows = [numbers[at:at + len(seals)] for at in range(0, len(numbers), len(seals))]
        return box.put(*[box.mixed(seals, row) for row in rows])

    def sure(self, k, h):
        box = self.box(k)
        return [0, int(box.at(h)[0][1] <= greatest_sure(box.form))]

    def table(self, k, h, g):
        box = self.box(k)
        need(len(g) == box.p, -2)
        need(max(g) < 2 * box.p, -1)
        seal, = box.at(h)
        box.room(1)
        need(box.uses < box.most, -7)
        made = box.sent(seal, g)
        box.uses += 1
        return box.put(made)

    def gate(self, k, kind, h, i):
        box = self.box(k)
        need(kind < 16 and box.p > 2, -1)
        seals = box.at(h, i)
        box.room(1)
        need(box.uses < box.most, -7)
        made = box.sent(box.mixed(seals, (1, 2)), gate_table(kind, box.p))
        box.uses += 1
        return box.put(made)

    def circuit(self, k, seals, row):
        box = self.box(k)
        need(len(seals) <= 16 and box.p > 2, -1)
        gates, outs = CIRCUITS[tuple(row)]
        wires = box.at(*seals)
        box.room(len(outs))
        need(not gates or box.uses + len(gates) <= box.most, -7)
        for kind, x, y in gates:
            wires.append(box.sent(box.mixed([wires[x], wires[y]], (1, 2)), gate_table(kind, box.p)))
        box.uses += len(gates)
        return box.put(*[wires[out] for out in outs])


# The model doesn't read bytes: it knows which circuit they were made of.
CIRCUITS = {}


class Line:
    """A list of calls by luck, most of them such as can be answered."""

    def __init__(self, seed):
        self.luck = random.Random(seed)
        self.form = self.luck.choice(FORMS)
        other = self.form if self.luck.random() < 0.6 else self.luck.choice(FORMS)
        self.calls = [("key", 0, SEEDS[0], self.form), ("hand", 1, 0)]
        if self.luck.random() < 0.8:
            self.calls.append(("key", 2, SEEDS[1], other))
        self.left = 12
        for k in (0, 0, 0, 2):
            self.calls.append(("seal", k, self.luck.randrange(2), self.luck.randrange(99)))
        self.calls += [("send", 0, 0, 1), ("send", 0, 1, 1)]
        while len(self.calls) < 100:
            self.calls.append(self.call())

    def box(self):
        return self.luck.choice((0, 0, 0, 1, 1, 1, 1, 2, 2, 3))

    def spot(self):
        return self.luck.randrange(self.luck.choice((4, 4, 8, 16, 33)))

    def number(self):
        return self.luck.randrange(2 * self.form[2] + (self.luck.random() < 0.1))

    def factor(self):
        return self.luck.choice((0, 1, -1, 1, 2, 3, -5, 127, -128, 128, -129)[:self.luck.choice((4, 6, 9, 11))])

    def call(self):
        name = self.luck.choice(("told", "cap", "uses", "seal", "open", "off", "bound", "write", "read", "send", "send",
                                 "drop", "drop", "count", "add", "sub", "times", "plus", "mix", "sure", "table",
                                 "gate", "circuit"))
        return getattr(self, name, self.with_seals)(name, self.box())

    def with_seals(self, name, k):
        many = {"told": 0, "uses": 0, "count": 0, "add": 2, "sub": 2}.get(name, 1)
        return (name, k, *[self.spot() for _ in range(many)])

    def cap(self, name, k):
        return name, k, self.luck.choice((0, 1, 2, 5, 9, 99))

    def seal(self, name, k):
        return name, k, self.number(), self.luck.randrange(1000)

    def off(self, name, k):
        return name, k, self.spot(), self.number()

    plus = off

    def read(self, name, k):
        size = 2 * self.form[0] + 2 + (self.luck.random() < 0.1)
        return name, k, self.luck.choice((0, 5, 700, 32768, 32769)), [self.luck.randrange(256) for _ in range(size)]

    def send(self, name, k):
        return name, k, self.spot(), self.box()

    def times(self, name, k):
        return name, k, self.spot(), self.factor()

    def mix(self, name, k):
        seals, rows = self.luck.choice((1, 2, 3)), self.luck.choice((1, 1, 2, 3))
        return name, k, [self.spot() for _ in range(seals)], [self.factor() for _ in range(seals * rows)]

    def table(self, name, k):
        if self.left == 0:
            return "uses", k
        self.left -= 1
        return name, k, self.spot(), [self.number() for _ in range(self.form[2] + (self.luck.random() < 0.1))]

    def gate(self, name, k):
        if self.left == 0:
            return "uses", k
        self.left -= 1
        return name, k, self.luck.randrange(17), self.spot(), self.spot()

    def circuit(self, name, k):
        m, gates = self.luck.randrange(1, 4), min(self.left, self.luck.randrange(4))
        self.left -= gates
        circuit = drawn(self.luck, m, gates, self.luck.randrange(4))
        row = circuit_bytes(*circuit)
        CIRCUITS[tuple(row)] = circuit
        return name, k, [self.spot() for _ in range(m)], row


class LongLists(unittest.TestCase):
    def test_all_answers(self):
        """And the second point after each of them, whatever calls were made."""
        met = {}
        for seed in range(60):
            calls, model = Line(seed).calls, Model()
            for call, told in zip(calls, ask(*calls)):
                self.assertEqual(told, model.answer(*call), (seed, call))
                met.setdefault(call[0], set()).add(told[0])
                self.bounds_hold(model)
        for name, refusals in (("table", {-1, -2, -4, -5, -7, -8}), ("gate", {-1, -4, -5, -7, -8}),
                               ("circuit", {-1, -4, -5, -7, -8}), ("send", {-1, -2, -5}), ("mix", {-1, -4, -5})):
            self.assertLessEqual(refusals | {0}, met[name], name)

    def bounds_hold(self, model):
        """No seal whose number is known is off by more than its bound."""
        for box in model.boxes.values():
            for row, bound, number in box.seals.values():
                if number is not None and bound < 32768:
                    self.assertLessEqual(abs(box.keys.off(row, number)), bound)


if __name__ == "__main__":
    unittest.main()
