"""What the tests share: calls written out, tables, and words reckoned without heights."""

import functools
import itertools
import math
import random

from mirrorwordsyard.mirrors import answers

REFUSED = [-2]


def begin(n, m, o=0):
    return [0, o, n, len(m)] + list(m)


def same(a, b, o=0):
    return [1, o, len(a)] + list(a) + [len(b)] + list(b)


def length(a, o=0):
    return [2, o, len(a)] + list(a)


def least(a, o=0):
    return [3, o, len(a)] + list(a)


def ends(a, o=0):
    return [4, o, len(a)] + list(a)


def below(a, b, o=0):
    return [5, o, len(a)] + list(a) + [len(b)] + list(b)


def order(a, o=0):
    return [6, o, len(a)] + list(a)


def count(k, o=0):
    return [7, o, k]


def longest(o=0):
    return [8, o]


def between(k, a, o=0):
    return [9, o, k, len(a)] + list(a)


def split(given):
    """The answers of a list of calls, each as a list of its own."""
    parted = []
    place = 0
    while place < len(given):
        size = given[place]
        parted.append(given[place + 1:place + 1 + size])
        place += 1 + size
    assert place == len(given), given
    return parted


def ask(*calls):
    """The answers to some calls, made in one list."""
    assert len(calls) <= 400
    handed = list(itertools.chain.from_iterable(calls))
    assert len(handed) <= 30000
    parted = split(answers(handed))
    assert len(parted) == len(calls), parted
    return parted


def ask_begun(n, m, calls):
    """The answers to any number of calls on one table, in as many lists as they need."""
    first = begin(n, m)
    given = []
    waiting = []
    size = len(first)
    for call in calls:
        if len(waiting) == 399 or size + len(call) > 30000:
            given.extend(ask(first, *waiting)[1:])
            waiting = []
            size = len(first)
        waiting.append(call)
        size += len(call)
    return given + ask(first, *waiting)[1:]


def differing(asked, given, expected):
    """The first few of what was asked that is not answered as expected; empty if all is."""
    assert len(asked) == len(given) == len(expected)
    return [found for found in zip(asked, given, expected) if found[1] != found[2]][:3]


def table(n, told, other=2):
    """The table in which the pairs of told have these numbers and all others have one."""
    m = [1 if i == j else other for i in range(n) for j in range(n)]
    for (i, j), number in told.items():
        m[n * i + j] = number
        m[n * j + i] = number
    return m


def chain(*numbers):
    """The table of mirrors in a row, each two neighbours told one of the numbers."""
    return table(len(numbers) + 1, {(i, i + 1): number for i, number in enumerate(numbers)})


def ring(n, number=3):
    """The table of n mirrors in a ring, each two neighbours told the number."""
    return table(n, {(i, (i + 1) % n): number for i in range(n)})


def side_by_side(*tables):
    """The number of mirrors and the table of families that don't meet: across them all are told 2."""
    sizes = [math.isqrt(len(m)) for m in tables]
    told = {}
    first = 0
    for size, m in zip(sizes, tables):
        for i, j in itertools.combinations(range(size), 2):
            told[first + i, first + j] = m[size * i + j]
        first += size
    return first, table(first, told)


def renumbered(n, m, seed):
    """The same family with its mirrors in another order."""
    place = random.Random(seed).sample(range(n), n)
    return [m[n * place[i] + place[j]] for i in range(n) for j in range(n)]


# Families that end: the table, the degrees whose product is the number of turns, and how often the
# word of all mirrors must be written. The longest word has as many letters as the degrees exceed 1.
A1 = ([1], (2,), 2)
A2 = (chain(3), (2, 3), 3)
A3 = (chain(3, 3), (2, 3, 4), 4)
A4 = (chain(3, 3, 3), (2, 3, 4, 5), 5)
A5 = (chain(3, 3, 3, 3), (2, 3, 4, 5, 6), 6)
A6 = (chain(3, 3, 3, 3, 3), (2, 3, 4, 5, 6, 7), 7)
A7 = (chain(3, 3, 3, 3, 3, 3), (2, 3, 4, 5, 6, 7, 8), 8)
A8 = (chain(3, 3, 3, 3, 3, 3, 3), (2, 3, 4, 5, 6, 7, 8, 9), 9)
B2 = (chain(4), (2, 4), 4)
B3 = (chain(4, 3), (2, 4, 6), 6)
B4 = (chain(4, 3, 3), (2, 4, 6, 8), 8)
B8 = (chain(4, 3, 3, 3, 3, 3, 3), (2, 4, 6, 8, 10, 12, 14, 16), 16)
D4 = (table(4, {(0, 1): 3, (0, 2): 3, (0, 3): 3}), (2, 4, 4, 6), 6)
D5 = (table(5, {(0, 1): 3, (1, 2): 3, (2, 3): 3, (2, 4): 3}), (2, 4, 5, 6, 8), 8)
E6 = (table(6, {(0, 1): 3, (1, 2): 3, (2, 3): 3, (3, 4): 3, (2, 5): 3}), (2, 5, 6, 8, 9, 12), 12)
E7 = (
    table(7, {(0, 1): 3, (1, 2): 3, (2, 3): 3, (3, 4): 3, (4, 5): 3, (2, 6): 3}),
    (2, 6, 8, 10, 12, 14, 18), 18,
)
F4 = (chain(3, 4, 3), (2, 6, 8, 12), 12)
G2 = (chain(6), (2, 6), 6)

# Mirror 7 stands at mirror 2: 696,729,600 turns, the longest of length 120.
E8 = table(8, {(0, 1): 3, (1, 2): 3, (2, 3): 3, (3, 4): 3, (4, 5): 3, (5, 6): 3, (2, 7): 3})


E8_DEGREES = (2, 8, 12, 14, 18, 20, 24, 30)


def growth(degrees):
    """How many turns of each length a family has that ends and has these degrees."""
    counts = [1]
    for degree in degrees:
        wider = [0] * (len(counts) + degree - 1)
        for place, number in enumerate(counts):
            for step in range(degree):
                wider[place + step] += number
        counts = wider
    return counts


def families_that_end(most_turns):
    """Families side by side, eight mirrors at the most, with no more turns than told: lists of them."""
    waiting = [[]]
    parts = (A1, A2, A3, A4, B2, B3, B4, D4, G2)
    while waiting:
        now = waiting.pop()
        for part in parts[parts.index(now[-1]) if now else 0:]:
            both = now + [part]
            mirrors = sum(len(degrees) for m, degrees, times in both)
            turns = math.prod(degree for m, degrees, times in both for degree in degrees)
            if mirrors <= 8 and turns <= most_turns:
                waiting.append(both)
                yield both


def all_tables(n):
    pairs = list(itertools.combinations(range(n), 2))
    for numbers in itertools.product((2, 3, 4, 6, 0), repeat=len(pairs)):
        yield table(n, dict(zip(pairs, numbers)))


def all_words(n, longest):
    for size in range(longest + 1):
        yield from itertools.product(range(n), repeat=size)


def some_words(seed, n, size, how_many):
    source = random.Random(seed)
    return [tuple(source.randrange(n) for place in range(size)) for word in range(how_many)]


def turned_about(n, m, word):
    """The words that come of one exchange of i j i j ... for j i j i ..."""
    for place in range(len(word) - 1):
        i, j = word[place], word[place + 1]
        size = m[n * i + j]
        if i != j and size and word[place:place + size] == tuple((i, j)[k % 2] for k in range(size)):
            yield word[:place] + tuple((j, i)[k % 2] for k in range(size)) + word[place + size:]


def shortest_words(n, m, word):
    """All shortest words that mean the same.

    By a theorem of Tits no letter ever needs to be put in: exchanges, and taking out the same
    mirror twice, lead to a shortest word, and exchanges alone to all the others.
    """
    waiting = [tuple(word)]
    seen = set(waiting)
    while waiting:
        now = waiting.pop()
        for place in range(len(now) - 1):
            if now[place] == now[place + 1]:
                return shortest_words(n, m, now[:place] + now[place + 2:])
        for other in turned_about(n, m, now):
            if other not in seen:
                seen.add(other)
                waiting.append(other)
    return seen


@functools.lru_cache(maxsize=None)
def first_shortest(n, m, word):
    """The first in order of the shortest words, by steps alone; m and word are tuples."""
    return min(shortest_words(n, m, word))


def levels_by_steps(n, m, most):
    """The first shortest words of each length from 0 to the most, in as many lists."""
    m = tuple(m)
    levels = [[()]]
    for size in range(most):
        longer = {first_shortest(n, m, word + (i,)) for word in levels[-1] for i in range(n)}
        levels.append(sorted(word for word in longer if len(word) == size + 1))
    return levels


def all_below(n, m, word):
    """The first shortest words of all that lies below a word, by the document's own words."""
    m = tuple(m)
    found = set()
    for shortest in shortest_words(n, m, word):
        left = {()}
        for letter in shortest:
            left |= {kept + (letter,) for kept in left}
        found |= {first_shortest(n, m, kept) for kept in left}
    return found


def with_detours(seed, n, word, size):
    """A word that means the same, made longer by putting in the same mirror twice again and again."""
    source = random.Random(seed)
    word = list(word)
    while len(word) + 2 <= size:
        place = source.randrange(len(word) + 1)
        word[place:place] = [source.randrange(n)] * 2
    return word


def below_in_rows(lower, upper):
    """Whether of each first so many in the row no more are at least so high in the lower as in the upper."""
    for size in range(1, len(lower)):
        if any(x > y for x, y in zip(sorted(lower[:size]), sorted(upper[:size]))):
            return False
    return True


class Shuffle:
    """Mirrors 0 to n - 1 as exchanges of neighbours in a row of n + 1: the table chain(3, 3, ...)."""

    def __init__(self, n, word):
        self.row = list(range(n + 1))
        for i in word:
            self.row[i], self.row[i + 1] = self.row[i + 1], self.row[i]

    def lies_below(self, other):
        return below_in_rows(self.row, other.row)

    def length(self):
        return sum(x > y for x, y in itertools.combinations(self.row, 2))

    def ends(self):
        return sum(2 ** i for i in range(len(self.row) - 1) if self.row[i] > self.row[i + 1])


class SignedShuffle:
    """Mirror 0 turns the first sign, mirror i exchanges places i - 1 and i: chain(4, 3, 3, ...)."""

    def __init__(self, n, word):
        self.row = list(range(1, n + 1))
        for i in word:
            if i == 0:
                self.row[0] = -self.row[0]
            else:
                self.row[i - 1], self.row[i] = self.row[i], self.row[i - 1]

    def both_sides(self):
        return [-x for x in reversed(self.row)] + self.row

    def lies_below(self, other):
        return below_in_rows(self.both_sides(), other.both_sides())

    def length(self):
        pairs = list(itertools.combinations(self.row, 2))
        turned = sum(x < 0 for x in self.row)
        return turned + sum(x > y for x, y in pairs) + sum(x + y < 0 for x, y in pairs)

    def ends(self):
        total = 1 if self.row[0] < 0 else 0
        return total + sum(2 ** i for i in range(1, len(self.row)) if self.row[i - 1] > self.row[i])


class EndlessShuffle:
    """n mirrors in a ring, each told 3 with its neighbours: places are repeated every n."""

    def __init__(self, n, word):
        self.row = list(range(n))
        for i in word:
            if i < n - 1:
                self.row[i], self.row[i + 1] = self.row[i + 1], self.row[i]
            else:
                self.row[n - 1], self.row[0] = self.row[0] + n, self.row[n - 1] - n

    def how_many_above(self, last, value):
        """How many up to the last place are at least as high as the value."""
        n = len(self.row)
        total = 0
        for place, x in enumerate(self.row):
            first_round = -((x - value) // n)
            last_round = (last - place) // n
            total += max(0, last_round - first_round + 1)
        return total

    def lies_below(self, other):
        n = len(self.row)
        values = range(min(self.row + other.row) - n, max(self.row + other.row) + n + 1)
        return all(
            self.how_many_above(last, value) <= other.how_many_above(last, value)
            for last in range(n) for value in values
        )

    def length(self):
        n = len(self.row)
        return sum(abs((y - x) // n) for x, y in itertools.combinations(self.row, 2))

    def ends(self):
        n = len(self.row)
        total = sum(2 ** i for i in range(n - 1) if self.row[i] > self.row[i + 1])
        return total + (2 ** (n - 1) if self.row[n - 1] > self.row[0] + n else 0)


def freely_shortened(word):
    """The one shortest word where every two mirrors are told 0."""
    kept = []
    for letter in word:
        if kept and kept[-1] == letter:
            kept.pop()
        else:
            kept.append(letter)
    return kept


def in_turn(i, j, size):
    return [(i, j)[k % 2] for k in range(size)]
