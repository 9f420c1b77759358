"""Promise 8: count."""

import itertools
import unittest

from tests.helper import (
    A1, A2, A3, A4, B2, B3, D4, E8, E8_DEGREES, F4, G2, REFUSED, all_tables, ask, ask_begun, begin, chain, count,
    families_that_end, growth, length, levels_by_steps, renumbered, ring, same, side_by_side, table,
)


def asked_sizes(counts):
    """The sizes k for which there are 300 words at the most of length k or less."""
    return [k for k, total in enumerate(itertools.accumulate(counts)) if total <= 300]


def endless_growth(degrees, most):
    """How many turns of each length has the family whose part with these degrees ends, and one mirror more."""
    counts = growth(degrees) + [0] * most
    for degree in degrees:
        for k in range(degree - 1, len(counts)):
            counts[k] += counts[k - degree + 1]
    return counts[:most + 1]


class Count(unittest.TestCase):
    def check(self, n, m, counts):
        sizes = [k for k in asked_sizes(counts) if k <= 128]
        self.assertEqual(ask_begun(n, m, map(count, sizes)), [[0, counts[k]] for k in sizes], m)

    def test_families_that_end(self):
        for seed, parts in enumerate(families_that_end(300)):
            n, m = side_by_side(*[part[0] for part in parts])
            counts = growth([degree for part in parts for degree in part[1]])
            self.check(n, m, counts + [0] * 129)
            self.check(n, renumbered(n, m, seed), counts + [0] * 129)

    def test_above_the_longest_length_there_is_none(self):
        for m, degrees, times in (A1, A2, A3, A4, B2, B3, D4, G2):
            longest = sum(degree - 1 for degree in degrees)
            given = ask(begin(len(degrees), m), count(longest), count(longest + 1), count(longest + 2), count(128))
            self.assertEqual(given, [[0], [0, 1], [0, 0], [0, 0], [0, 0]], m)

    def test_the_first_lengths_of_large_families(self):
        self.check(8, E8, growth(E8_DEGREES))
        self.check(4, F4[0], growth(F4[1]))
        self.check(8, chain(3, 3, 3, 3, 3, 3, 3), growth(range(2, 10)))
        self.check(8, chain(4, 3, 3, 3, 3, 3, 3), growth(range(2, 18, 2)))

    def test_eight_mirrors_of_which_each_two_are_told_2(self):
        self.check(8, table(8, {}), [1, 8, 28, 56, 70, 56, 28, 8, 1] + [0] * 120)

    def test_families_that_never_end_but_grow_slowly(self):
        for degrees, m in (
            ((2, 3), ring(3)), ((2, 4), chain(4, 4)), ((2, 6), chain(3, 6)), ((2, 3, 4), ring(4)),
            ((2, 4, 6), chain(4, 3, 4)), ((2, 6, 8, 12), chain(3, 3, 4, 3)), (tuple(range(2, 9)), ring(8)),
        ):
            n = len(degrees) + 1
            counts = endless_growth(degrees, 60)
            self.check(n, m, counts)
            self.check(n, renumbered(n, m, n), counts)

    def test_two_mirrors_told_0(self):
        self.check(2, chain(0), [1] + [2] * 128)

    def test_two_mirrors_told_0_and_one_beside_them(self):
        counts = [1, 3] + [4] * 127
        self.assertEqual(max(asked_sizes(counts)), 75)
        self.check(3, table(3, {(0, 2): 0}), counts)

    def test_every_two_never(self):
        for n in range(3, 9):
            self.check(n, table(n, {}, other=0), [1] + [n * (n - 1) ** k for k in range(9)])

    def test_beside_steps(self):
        tables = [(3, m) for m in all_tables(3)] + [(4, m) for k, m in enumerate(all_tables(4)) if k % 97 == 0]
        for n, m in tables:
            self.check(n, m, [len(level) for level in levels_by_steps(n, m, 5)])
        for number in (2, 3, 4, 6, 0):
            m = table(8, {(0, 7): 6, (1, 6): 4, (2, 5): 3, (3, 4): 0, (1, 2): 2}, other=number)
            self.check(8, m, [len(level) for level in levels_by_steps(8, m, 3)])

    def test_the_empty_word_and_the_mirrors(self):
        for n in range(1, 9):
            for number in (2, 3, 4, 6, 0):
                given = ask(begin(n, table(n, {}, other=number)), count(0), count(1))
                self.assertEqual(given, [[0], [0, 1], [0, n]], (n, number))

    def test_the_set_that_is_named(self):
        given = ask(begin(2, chain(3)), begin(2, chain(0), o=1), count(3), count(3, o=1), count(4), count(4, o=1))
        self.assertEqual(given, [[0], [0], [0, 1], [0, 2], [0, 0], [0, 2]])


class Refusals(unittest.TestCase):
    def test_a_length_above_128(self):
        for n, m in ((1, [1]), (2, chain(0)), (3, ring(3)), (8, E8), (8, table(8, {}, other=0))):
            for k in (129, 130, 256, 2147483648, 4294967295):
                self.assertEqual(ask(begin(n, m), count(k), count(0)), [[0], REFUSED, [0, 1]], (n, k))

    def test_a_refusal_changes_nothing(self):
        given = ask(begin(2, chain(4)), count(129), count(128), count(2), length([0, 1] * 2), same([0, 1], [1, 0]))
        self.assertEqual(given, [[0], REFUSED, [0, 0], [0, 2], [4], [0]])


if __name__ == "__main__":
    unittest.main()
