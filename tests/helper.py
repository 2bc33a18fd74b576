"""What the tests share: calls written by name, and keys reckoned in another way than the program's."""

from sealedbox.boxes import answers

NUMBERS = {
    "need": 1, "can": 2, "luck": 3, "key": 4, "hand": 5, "give": 6, "take": 7, "told": 8,
    "cap": 9, "uses": 10, "seal": 11, "open": 12, "off": 13, "bound": 14, "write": 15,
}
GREATEST = 4294967295
GREATEST_SEED = 18446744073709551615

# Its working part and seals are small, and a table's bound is sure.
FORM = [2, 16, 4, 3, 6, 4, 3, 5]
# The least of every number, and the greatest that go together.
LEAST = [1, 8, 2, 1, 1, 1, 1, 0]
MOST = [4, 32, 8, 4, 8, 2, 8, 127]
# Its working part has 4,000 bytes to the byte.
FULL = [3, 8, 2, 4, 8, 14, 1, 3]


def flat(*calls):
    """The calls, each a tuple of its name, its numbers and its lists, as one list."""
    line = []
    for call in calls:
        line.append(NUMBERS[call[0]])
        for value in call[1:]:
            line.extend([len(value)] + value if isinstance(value, list) else [value])
    return line


def parted(told):
    """What's answered, a list for each call."""
    parts = []
    place = 0
    while place < len(told):
        end = place + 1 + told[place]
        assert told[place] >= 1 and end <= len(told), "the counts don't fit"
        parts.append(told[place + 1:end])
        place = end
    return parts


def ask(*calls):
    """The answers to all the calls, after looking that each is a whole number and each call has one."""
    told = answers(flat(*calls))
    assert all(type(number) is int for number in told), "not whole numbers alone"
    parts = parted(told)
    assert len(parts) == len(calls), "not an answer for each call"
    return parts


def last(*calls):
    """The answer to the last of the calls."""
    return ask(*calls)[-1]


def luck_bytes(seed, many):
    row = []
    for _ in range(many):
        seed = (seed * 6364136223846793005 + 1442695040888963407) & (2 ** 64 - 1)
        row.append(seed >> 56)
    return row


def low(number, size):
    return list(number.to_bytes(size, "little"))


def number(octets):
    return int.from_bytes(bytes(octets), "little")


def off(octet, noise):
    return octet % (2 * noise + 1) - noise


class Keys:
    """The keys of a seed, reckoned out of the whole row of luck by places."""

    def __init__(self, seed, form):
        self.form = form
        self.n, self.N, self.p, self.c, self.w, self.c2, self.w2, self.noise = form
        pair, row = 9 * self.N, 2 * self.n + 1
        pairs, rows = 2 * self.n * self.c, self.N * self.c2
        head = self.n + self.N
        self.need = head + pairs * pair + rows * row
        self.luck = luck_bytes(seed, self.need)
        self.s = [octet & 1 for octet in self.luck[:self.n]]
        self.z = [octet & 1 for octet in self.luck[self.n:head]]
        self.pairs = [self.pair(t, self.luck[head + t * pair:]) for t in range(pairs)]
        head += pairs * pair
        self.rows = [self.row(t, self.luck[head + t * row:]) for t in range(rows)]

    def by_z(self, a):
        """a times z by the powers that fall together, not by turning."""
        long = [0] * (2 * self.N)
        for i, x in enumerate(a):
            for j, y in enumerate(self.z):
                long[i + j] += x * y
        return [long[i] - long[i + self.N] for i in range(self.N)]

    def pair(self, t, luck):
        i, u, k = t // (2 * self.c), t // self.c % 2, t % self.c
        a = [number(luck[8 * x:8 * x + 8]) % 2 ** 52 for x in range(self.N)]
        e = [off(octet, self.noise) for octet in luck[8 * self.N:9 * self.N]]
        b = [(x + y) % 2 ** 52 for x, y in zip(self.by_z(a), e)]
        lift = self.s[i] * 2 ** (52 - self.w * (k + 1))
        a[0] = (a[0] + lift * (1 - u)) % 2 ** 52
        b[0] = (b[0] + lift * u) % 2 ** 52
        return a + b

    def row(self, t, luck):
        i, k = t // self.c2, t % self.c2
        return self.words(luck, self.z[i] * 2 ** (16 - self.w2 * (k + 1)))

    def words(self, luck, under):
        """n words and the one that hides what's under them."""
        a = [number(luck[2 * x:2 * x + 2]) for x in range(self.n)]
        hidden = sum(x for x, bit in zip(a, self.s) if bit)
        return a + [(hidden + off(luck[2 * self.n], self.noise) + under) % 65536]

    def part(self):
        octets = []
        for numbers, size in ((self.form, 4), (sum(self.pairs, []), 8), (sum(self.rows, []), 2)):
            for x in numbers:
                octets.extend(low(x, size))
        return octets

    def seal(self, j, seed):
        """A new seal's bytes."""
        words = self.words(luck_bytes(seed, 2 * self.n + 1), j * 32768 // self.p)
        return [octet for word in words for octet in low(word, 2)]

    def seal_off(self, seed):
        """What a new seal is off by."""
        return off(luck_bytes(seed, 2 * self.n + 1)[-1], self.noise)
