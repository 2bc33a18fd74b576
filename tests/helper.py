"""What the tests share: calls written by name, and keys reckoned in another way than the program's."""

import functools

from sealedbox.boxes import answers

NUMBERS = {
    "need": 1, "can": 2, "luck": 3, "key": 4, "hand": 5, "give": 6, "take": 7, "told": 8,
    "cap": 9, "uses": 10, "seal": 11, "open": 12, "off": 13, "bound": 14, "write": 15, "read": 16,
    "send": 17, "drop": 18, "count": 19, "add": 20, "sub": 21, "times": 22, "plus": 23, "mix": 24,
    "sure": 25, "table": 26, "gate": 27, "circuit": 28, "judge": 29, "plain": 30,
}
GREATEST = 4294967295
GREATEST_SEED = 18446744073709551615

# Its working part and seals are small; new seals are sure, but what a table makes isn't.
FORM = [2, 16, 4, 3, 6, 4, 3, 5]
# The least of every number, and the greatest that go together.
LEAST = [1, 8, 2, 1, 1, 1, 1, 0]
MOST = [4, 32, 8, 4, 8, 2, 8, 127]
# Its working part has 4,000 bytes to the byte.
FULL = [3, 8, 2, 4, 8, 14, 1, 3]
# Of these, three times what a table makes is still sure, so that gates may follow gates; DEEP can be given and taken.
DEEP = [1, 32, 4, 2, 8, 8, 2, 1]
DEEPS = (DEEP, [4, 32, 4, 4, 8, 16, 1, 0], [2, 32, 4, 3, 8, 16, 1, 1], [1, 32, 8, 4, 7, 5, 3, 0])


def flat(*calls):
    """The calls, each a tuple of its name, its numbers and its lists, as one list."""
    line = []
    for call in calls:
        line.append(NUMBERS[call[0]])
        for value in call[1:]:
            line.extend([len(value)] + value if isinstance(value, list) else [value])
    return line


def parted(told):
    """What's answered, a list for each call."""
    parts = []
    place = 0
    while place < len(told):
        end = place + 1 + told[place]
        assert told[place] >= 1 and end <= len(told), "the counts don't fit"
        parts.append(told[place + 1:end])
        place = end
    return parts


def ask(*calls):
    """The answers to all the calls, after looking that each is a whole number and each call has one."""
    told = answers(flat(*calls))
    assert all(type(number) is int for number in told), "not whole numbers alone"
    parts = parted(told)
    assert len(parts) == len(calls), "not an answer for each call"
    return parts


def last(*calls):
    """The answer to the last of the calls."""
    return ask(*calls)[-1]


def filled(k, many=32):
    """Calls that fill box k's free numbers, of which there are so many, with nothing times the seal at 0."""
    rows = [8] * (many // 8) + [many % 8] * (many % 8 > 0)
    return [("mix", k, [0], [0] * row) for row in rows]


def looks(k, many=32):
    """Calls that look at all that box k has, at the first so many of its seals."""
    seals = [(name, k, h) for h in range(many) for name in ("write", "bound")]
    return [("told", k), ("count", k), ("uses", k)] + seals


def luck_bytes(seed, many):
    row = []
    for _ in range(many):
        seed = (seed * 6364136223846793005 + 1442695040888963407) & (2 ** 64 - 1)
        row.append(seed >> 56)
    return row


def low(number, size):
    return list(number.to_bytes(size, "little"))


def number(octets):
    return int.from_bytes(bytes(octets), "little")


def off(octet, noise):
    return octet % (2 * noise + 1) - noise


def product(first, second):
    """The product by the powers that fall together, not by turning."""
    size = len(first)
    long = [0] * (2 * size)
    for i, x in enumerate(first):
        for j, y in enumerate(second):
            long[i + j] += x * y
    return [long[i] - long[i + size] for i in range(size)]


def shifted(poly, power):
    """X to the power times the polynomial, each number put to its place at once."""
    size = len(poly)
    out = [0] * size
    for i, x in enumerate(poly):
        at = (i + power) % (2 * size)
        out[at % size] = x if at < size else -x
    return out


def apart(v, width, many, bits):
    """The digits, by adding half of each digit's range and taking it off again."""
    kept, half = many * bits, 2 ** (bits - 1)
    v = ((v % 2 ** width << kept) + 2 ** (width - 1)) >> width
    v += sum(half << bits * place for place in range(many))
    return [(v >> bits * place) % 2 ** bits - half for place in reversed(range(many))]


def words(octets):
    return [number(octets[at:at + 2]) for at in range(0, len(octets), 2)]


def octets(row):
    """The words' bytes."""
    return [octet for word in row for octet in low(word, 2)]


def summed(seals, factors):
    """The seals (lists of words) times the numbers, added."""
    return [sum(x * y for x, y in zip(column, factors)) % 65536 for column in zip(*seals)]


def table_bound(form):
    """The bound of a seal that a table makes."""
    n, N, _, c, w, c2, w2, noise = form
    v = (N + 1) * 2 ** (51 - c * w) + 2 * c * N * 2 ** (w - 1) * noise
    r = 2 ** (15 - c2 * w2) if c2 * w2 < 16 else 0
    return min(32768, (n * v + (N + 1) * 2 ** 35) // 2 ** 36 + N * r + N * c2 * 2 ** (w2 - 1) * noise)


def greatest_sure(form):
    n, N, p = form[:3]
    return max((x for x in range(-1, 16384 // p) if x + (n + 1) * (16384 // N) < 16384 // p), default=-1)


def looked_up(g, j):
    """What the table gives of j."""
    return g[j] if j < len(g) else (2 * len(g) - g[j - len(g)]) % (2 * len(g))


def gate_table(kind, p):
    return [kind & 1, kind >> 1 & 1, kind >> 2 & 1, kind >> 3 & 1] + [0] * (p - 4)


def circuit_bytes(gates, outs):
    """Gates are (kind, x, y), outs are wires."""
    row = low(len(gates), 2) + low(len(outs), 2)
    for kind, x, y in gates:
        row += [kind] + low(x, 2) + low(y, 2)
    return row + octets(outs)


def open_circuit(bits, gates, outs):
    wires = list(bits)
    for kind, x, y in gates:
        wires.append(bin(16 + kind)[::-1][wires[x] + 2 * wires[y]] == "1")
    return [int(wires[out]) for out in outs]


def part_bytes(form, pairs, rows):
    """A working part's bytes; pairs are a's and b's numbers in one list each."""
    row = []
    for numbers, size in ((form, 4), (sum(pairs, []), 8), (sum(rows, []), 2)):
        for x in numbers:
            row += low(x, size)
    return row


# Of three bits, how many are 1, the lower bit first; and the circuit of nothing.
ADDER = ((6, 0, 1), (8, 0, 1), (6, 3, 2), (8, 3, 2), (14, 6, 4)), (5, 7)
NONE = circuit_bytes((), ())


def drawn(luck, m, gates, outs):
    """A circuit by luck: its gates and its outs."""
    made = [(luck.randrange(16), luck.randrange(m + i), luck.randrange(m + i)) for i in range(gates)]
    return made, [luck.randrange(m + gates) for _ in range(outs)]


class Keys:
    """The keys of a seed, reckoned out of the whole row of luck by places."""

    def __init__(self, seed, form):
        self.form = form
        self.n, self.N, self.p, self.c, self.w, self.c2, self.w2, self.noise = form
        pair, row = 9 * self.N, 2 * self.n + 1
        pairs, rows = 2 * self.n * self.c, self.N * self.c2
        head = self.n + self.N
        self.need = head + pairs * pair + rows * row
        self.luck = luck_bytes(seed, self.need)
        self.s = [octet & 1 for octet in self.luck[:self.n]]
        self.z = [octet & 1 for octet in self.luck[self.n:head]]
        self.pairs = [self.pair(t, self.luck[head + t * pair:]) for t in range(pairs)]
        head += pairs * pair
        self.rows = [self.row(t, self.luck[head + t * row:]) for t in range(rows)]

    def pair(self, t, luck):
        i, u, k = t // (2 * self.c), t // self.c % 2, t % self.c
        a = [number(luck[8 * x:8 * x + 8]) % 2 ** 52 for x in range(self.N)]
        e = [off(octet, self.noise) for octet in luck[8 * self.N:9 * self.N]]
        b = [(x + y) % 2 ** 52 for x, y in zip(product(a, self.z), e)]
        lift = self.s[i] * 2 ** (52 - self.w * (k + 1))
        a[0] = (a[0] + lift * (1 - u)) % 2 ** 52
        b[0] = (b[0] + lift * u) % 2 ** 52
        return a + b

    def row(self, t, luck):
        i, k = t // self.c2, t % self.c2
        return self.words(luck, self.z[i] * 2 ** (16 - self.w2 * (k + 1)))

    def words(self, luck, under):
        """n words and the one that hides what's under them."""
        a = [number(luck[2 * x:2 * x + 2]) for x in range(self.n)]
        hidden = sum(x for x, bit in zip(a, self.s) if bit)
        return a + [(hidden + off(luck[2 * self.n], self.noise) + under) % 65536]

    def part(self):
        return part_bytes(self.form, self.pairs, self.rows)

    def seal(self, j, seed):
        """A new seal's bytes."""
        return octets(self.words(luck_bytes(seed, 2 * self.n + 1), j * 32768 // self.p))

    def through(self, seal, g):
        """The seal (a list of words) sent through the table."""
        N, p, whole = self.N, self.p, 2 ** 52
        *powers, last = [(2 * N * word + 32768 >> 16) % (2 * N) for word in seal]
        places = [(2 * p * x + N) // (2 * N) for x in range(N)]
        poly = [(g[y] if y < p else -g[0]) * whole // (2 * p) for y in places]
        pair = [[0] * N, shifted(poly, -last)]
        for i, power in enumerate(powers):
            rests = [[x - y for x, y in zip(shifted(side, power), side)] for side in pair]
            for u, rest in enumerate(rests):
                for k, factor in enumerate(zip(*[apart(x, 52, self.c, self.w) for x in rest])):
                    turning = self.pairs[(2 * i + u) * self.c + k]
                    for side, by in ((0, turning[:N]), (1, turning[N:])):
                        pair[side] = [(x + y) % whole for x, y in zip(pair[side], product(factor, by))]
        return self.changed(*pair)

    def changed(self, a, b):
        """The seal of what's taken out of the pair."""
        taken = [(x % 2 ** 52 + 2 ** 35 >> 36) % 65536 for x in [a[0]] + [-x for x in a[:0:-1]] + [b[0]]]
        seal = [0] * self.n + taken[-1:]
        for i, word in enumerate(taken[:-1]):
            for k, digit in enumerate(apart(word, 16, self.c2, self.w2)):
                seal = [x - digit * y for x, y in zip(seal, self.rows[i * self.c2 + k])]
        return [x % 65536 for x in seal]

    def phase(self, seal):
        return (seal[-1] - sum(x for x, bit in zip(seal, self.s) if bit)) % 65536

    def off(self, seal, j):
        return (self.phase(seal) - j * 32768 // self.p + 32768) % 65536 - 32768

    def seal_off(self, seed):
        """What a new seal is off by."""
        return off(luck_bytes(seed, 2 * self.n + 1)[-1], self.noise)


@functools.lru_cache
def kept_keys(seed, form):
    return Keys(seed, list(form))


def keys_of(seed, form):
    """The keys, reckoned once however often they're asked for."""
    return kept_keys(seed, tuple(form))
