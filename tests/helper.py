"""What the tests share: calls written out, tables, and words reckoned without heights."""

import itertools
import random

from mirrorwordsyard.mirrors import answers

REFUSED = [-2]


def begin(n, m, o=0):
    return [0, o, n, len(m)] + list(m)


def same(a, b, o=0):
    return [1, o, len(a)] + list(a) + [len(b)] + list(b)


def length(a, o=0):
    return [2, o, len(a)] + list(a)


def least(a, o=0):
    return [3, o, len(a)] + list(a)


def ends(a, o=0):
    return [4, o, len(a)] + list(a)


def split(given):
    """The answers of a list of calls, each as a list of its own."""
    parted = []
    place = 0
    while place < len(given):
        size = given[place]
        parted.append(given[place + 1:place + 1 + size])
        place += 1 + size
    assert place == len(given), given
    return parted


def ask(*calls):
    """The answers to some calls, made in one list."""
    assert len(calls) <= 400
    handed = list(itertools.chain.from_iterable(calls))
    assert len(handed) <= 30000
    parted = split(answers(handed))
    assert len(parted) == len(calls), parted
    return parted


def ask_begun(n, m, calls):
    """The answers to any number of calls on one table, in as many lists as they need."""
    first = begin(n, m)
    given = []
    waiting = []
    size = len(first)
    for call in calls:
        if len(waiting) == 399 or size + len(call) > 30000:
            given.extend(ask(first, *waiting)[1:])
            waiting = []
            size = len(first)
        waiting.append(call)
        size += len(call)
    return given + ask(first, *waiting)[1:]


def table(n, told, other=2):
    """The table in which the pairs of told have these numbers and all others have one."""
    m = [1 if i == j else other for i in range(n) for j in range(n)]
    for (i, j), number in told.items():
        m[n * i + j] = number
        m[n * j + i] = number
    return m


def chain(*numbers):
    """The table of mirrors in a row, each two neighbours told one of the numbers."""
    return table(len(numbers) + 1, {(i, i + 1): number for i, number in enumerate(numbers)})


# Mirror 7 stands at mirror 2: 696,729,600 turns, the longest of length 120.
E8 = table(8, {(0, 1): 3, (1, 2): 3, (2, 3): 3, (3, 4): 3, (4, 5): 3, (5, 6): 3, (2, 7): 3})


def all_tables(n):
    pairs = list(itertools.combinations(range(n), 2))
    for numbers in itertools.product((2, 3, 4, 6, 0), repeat=len(pairs)):
        yield table(n, dict(zip(pairs, numbers)))


def all_words(n, longest):
    for size in range(longest + 1):
        yield from itertools.product(range(n), repeat=size)


def some_words(seed, n, size, how_many):
    source = random.Random(seed)
    return [tuple(source.randrange(n) for place in range(size)) for word in range(how_many)]


def turned_about(n, m, word):
    """The words that come of one exchange of i j i j ... for j i j i ..."""
    for place in range(len(word) - 1):
        i, j = word[place], word[place + 1]
        size = m[n * i + j]
        if i != j and size and word[place:place + size] == tuple((i, j)[k % 2] for k in range(size)):
            yield word[:place] + tuple((j, i)[k % 2] for k in range(size)) + word[place + size:]


def shortest_words(n, m, word):
    """All shortest words that mean the same.

    By a theorem of Tits no letter ever needs to be put in: exchanges, and taking out the same
    mirror twice, lead to a shortest word, and exchanges alone to all the others.
    """
    waiting = [tuple(word)]
    seen = set(waiting)
    while waiting:
        now = waiting.pop()
        for place in range(len(now) - 1):
            if now[place] == now[place + 1]:
                return shortest_words(n, m, now[:place] + now[place + 2:])
        for other in turned_about(n, m, now):
            if other not in seen:
                seen.add(other)
                waiting.append(other)
    return seen


class Shuffle:
    """Mirrors 0 to n - 1 as exchanges of neighbours in a row of n + 1: the table chain(3, 3, ...)."""

    def __init__(self, n, word):
        self.row = list(range(n + 1))
        for i in word:
            self.row[i], self.row[i + 1] = self.row[i + 1], self.row[i]

    def length(self):
        return sum(x > y for x, y in itertools.combinations(self.row, 2))

    def ends(self):
        return sum(2 ** i for i in range(len(self.row) - 1) if self.row[i] > self.row[i + 1])


class SignedShuffle:
    """Mirror 0 turns the first sign, mirror i exchanges places i - 1 and i: chain(4, 3, 3, ...)."""

    def __init__(self, n, word):
        self.row = list(range(1, n + 1))
        for i in word:
            if i == 0:
                self.row[0] = -self.row[0]
            else:
                self.row[i - 1], self.row[i] = self.row[i], self.row[i - 1]

    def length(self):
        pairs = list(itertools.combinations(self.row, 2))
        turned = sum(x < 0 for x in self.row)
        return turned + sum(x > y for x, y in pairs) + sum(x + y < 0 for x, y in pairs)

    def ends(self):
        total = 1 if self.row[0] < 0 else 0
        return total + sum(2 ** i for i in range(1, len(self.row)) if self.row[i - 1] > self.row[i])


class EndlessShuffle:
    """n mirrors in a ring, each told 3 with its neighbours: places are repeated every n."""

    def __init__(self, n, word):
        self.row = list(range(n))
        for i in word:
            if i < n - 1:
                self.row[i], self.row[i + 1] = self.row[i + 1], self.row[i]
            else:
                self.row[n - 1], self.row[0] = self.row[0] + n, self.row[n - 1] - n

    def length(self):
        n = len(self.row)
        return sum(abs((y - x) // n) for x, y in itertools.combinations(self.row, 2))

    def ends(self):
        n = len(self.row)
        total = sum(2 ** i for i in range(n - 1) if self.row[i] > self.row[i + 1])
        return total + (2 ** (n - 1) if self.row[n - 1] > self.row[0] + n else 0)


def freely_shortened(word):
    """The one shortest word where every two mirrors are told 0."""
    kept = []
    for letter in word:
        if kept and kept[-1] == letter:
            kept.pop()
        else:
            kept.append(letter)
    return kept


def in_turn(i, j, size):
    return [(i, j)[k % 2] for k in range(size)]
