"""Promise 9: longest."""

import itertools
import random
import unittest
from fractions import Fraction

from tests.helper import (
    A1, A4, REFUSED, Shuffle, SignedShuffle, all_tables, ask, begin, chain, count, ends, families_that_end,
    first_shortest, least, length, levels_by_steps, longest, order, renumbered, ring, side_by_side, table,
)


def never_ends(numbers):
    """Whether three mirrors of which each two are told these numbers can be used ever on."""
    return sum(Fraction(1, number) if number else 0 for number in numbers) <= 1


def parts_in_halves(n, m):
    """For each part of a family that ends, its mirrors in two rows: in a row, every two are told 2."""
    side = {}
    parts = []
    for start in range(n):
        if start in side:
            continue
        side[start] = 0
        members = [start]
        for i in members:
            for j in range(n):
                if m[n * i + j] > 2 and j not in side:
                    side[j] = 1 - side[i]
                    members.append(j)
        parts.append([[i for i in members if side[i] == half] for half in (0, 1)])
    return parts


class ThreeMirrorsAtTheMost(unittest.TestCase):
    """Answers beside all words that the document's own steps lead to."""

    def check_end(self, n, m):
        levels = levels_by_steps(n, m, 10)
        last = [level for level in levels if level][-1]
        self.assertEqual(levels[-1], [], m)
        self.assertEqual(len(last), 1, m)
        self.assertEqual(ask(begin(n, m), longest()), [[0], [0] + list(first_shortest(n, tuple(m), last[0]))], m)

    def test_one_mirror(self):
        self.assertEqual(ask(begin(1, [1]), longest()), [[0], [0, 0]])

    def test_two_mirrors(self):
        for number in (2, 3, 4, 6):
            self.check_end(2, chain(number))
            expected = [0] + [k % 2 for k in range(number)]
            self.assertEqual(ask(begin(2, chain(number)), longest()), [[0], expected])
        self.assertEqual(ask(begin(2, chain(0)), longest()), [[0], [-1]])

    def test_three_mirrors(self):
        ended = 0
        for m in all_tables(3):
            if never_ends((m[1], m[2], m[5])):
                self.assertEqual(ask(begin(3, m), longest()), [[0], [-1]], m)
            else:
                ended += 1
                self.check_end(3, m)
        self.assertEqual(ended, 1 + 9 + 3 + 6)

    def test_three_mirrors_that_never_end_though_none_are_told_0(self):
        for m in (ring(3), chain(4, 4), chain(3, 6), chain(6, 3), chain(4, 6), chain(6, 6), ring(3, 4), ring(3, 6)):
            self.assertEqual(ask(begin(3, m), longest()), [[0], [-1]], m)


class MoreMirrors(unittest.TestCase):
    def test_families_with_400_turns_at_the_most(self):
        for seed, parts in enumerate(families_that_end(400)):
            n, m = side_by_side(*[part[0] for part in parts])
            for other in (m, renumbered(n, m, seed), renumbered(n, m, seed + 1)):
                self.check_family(n, other, parts)

    def check_family(self, n, m, parts):
        given = ask(begin(n, m), longest())[1]
        size = sum(degree - 1 for part in parts for degree in part[1])
        self.assertEqual((given[0], len(given) - 1), (0, size), m)
        word = self.longest_by_halves(n, m)
        asked = ask(begin(n, m), length(given[1:]), ends(given[1:]), least(word))
        self.assertEqual(asked, [[0], [size], [2 ** n - 1], given], m)

    def longest_by_halves(self, n, m):
        """The halves of a part, used in turn as often as both together need to come back, lead to its longest."""
        word = []
        for halves in parts_in_halves(n, m):
            times = ask(begin(n, m), order(halves[0] + halves[1]))[1][0]
            word += [i for k in range(times) for i in halves[k % 2]]
        return word

    def test_shuffles(self):
        for n in (1, 2, 3, 4):
            given = ask(begin(n, chain(*[3] * (n - 1))), longest())[1]
            self.assertEqual(Shuffle(n, given[1:]).row, list(range(n, -1, -1)))
            self.assertEqual(given, [0] + [i for last in range(n) for i in range(last, -1, -1)])

    def test_signed_shuffles(self):
        for n in (2, 3, 4):
            given = ask(begin(n, chain(4, *[3] * (n - 2))), longest())[1]
            self.assertEqual(SignedShuffle(n, given[1:]).row, [-x for x in range(1, n + 1)])
            self.assertEqual(len(given), 1 + n * n)

    def test_eight_mirrors_of_which_each_two_are_told_2(self):
        self.assertEqual(ask(begin(8, table(8, {})), longest()), [[0], [0, 0, 1, 2, 3, 4, 5, 6, 7]])

    def test_some_two_mirrors_told_0(self):
        source = random.Random(0)
        for n in range(2, 9):
            for pair in itertools.combinations(range(n), 2):
                told = {other: source.choice((2, 3, 4, 6)) for other in itertools.combinations(range(n), 2)}
                self.assertEqual(ask(begin(n, table(n, told | {pair: 0})), longest()), [[0], [-1]], (n, pair))
                self.assertEqual(ask(begin(n, table(n, {pair: 0})), longest()), [[0], [-1]], (n, pair))
            self.assertEqual(ask(begin(n, table(n, {}, other=0)), longest()), [[0], [-1]], n)

    def test_a_part_that_ends_does_not_hide_one_that_never_does(self):
        n, m = side_by_side(A4[0], A1[0], chain(0))
        self.assertEqual(ask(begin(n, m), longest()), [[0], [-1]])


class InAList(unittest.TestCase):
    def test_the_set_that_is_named(self):
        given = ask(begin(2, chain(3)), begin(2, chain(0), o=1), longest(), longest(o=1), longest())
        self.assertEqual(given, [[0], [0], [0, 0, 1, 0], [-1], [0, 0, 1, 0]])

    def test_a_longest_is_not_kept_when_mirrors_change(self):
        given = ask(
            begin(2, chain(3)), longest(), begin(2, chain(5)), longest(), begin(2, chain(4)), longest(),
            begin(1, [1]), longest(), begin(3, ring(3)), longest(), count(1),
        )
        expected = [[0], [0, 0, 1, 0], REFUSED, [0, 0, 1, 0], [0], [0, 0, 1, 0, 1], [0], [0, 0], [0], [-1], [0, 3]]
        self.assertEqual(given, expected)


if __name__ == "__main__":
    unittest.main()
