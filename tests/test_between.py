"""Promise 10: between."""

import math
import unittest

from tests.helper import (
    E8, REFUSED, all_below, all_tables, all_words, ask, ask_begun, begin, below, between, chain, differing, in_turn,
    length, levels_by_steps, ring, some_words, table, with_detours,
)

FAR = (30, 127, 128)


def counts_below(n, m, word):
    """How many of each length lie below a word, by the document's own words."""
    counts = [0] * (len(word) + 1)
    for found in all_below(n, m, word):
        counts[len(found)] += 1
    return counts


class BesideTheDefinition(unittest.TestCase):
    def check(self, n, m, words):
        calls = []
        expected = []
        for word in words:
            counts = counts_below(n, m, word)
            sizes = list(range(len(word) + 2)) + list(FAR)
            calls += [between(k, word) for k in sizes]
            expected += [[0, counts[k] if k < len(counts) else 0] for k in sizes]
        self.assertEqual(differing(calls, ask_begun(n, m, calls), expected), [], m)

    def test_one_mirror(self):
        self.check(1, [1], all_words(1, 8))

    def test_two_mirrors(self):
        for m in all_tables(2):
            self.check(2, m, list(all_words(2, 5)) + some_words(2, 2, 8, 10))

    def test_three_mirrors(self):
        for seed, m in enumerate(all_tables(3)):
            self.check(3, m, some_words(seed, 3, 5, 4) + some_words(seed, 3, 7, 2))

    def test_four_mirrors(self):
        for seed, m in enumerate(all_tables(4)):
            if seed % 97 == 0:
                self.check(4, m, some_words(seed, 4, 6, 4) + some_words(seed, 4, 8, 1))

    def test_eight_mirrors(self):
        for seed, number in enumerate((2, 3, 4, 6, 0)):
            m = table(8, {(0, 7): 6, (1, 6): 4, (2, 5): 3, (3, 4): 0, (1, 2): 2}, other=number)
            self.check(8, m, some_words(seed, 8, 5, 4))

    def test_beside_below(self):
        for n, m in ((3, chain(3, 3)), (3, chain(4, 3)), (3, ring(3)), (4, chain(3, 4, 3)), (4, ring(4, 0))):
            levels = levels_by_steps(n, m, 6)
            for word in some_words(n, n, 6, 4):
                for k, level in enumerate(levels):
                    lower = ask_begun(n, m, [below(a, word) for a in level])
                    self.assertEqual(ask(begin(n, m), between(k, word))[1], [0, sum(answer[0] for answer in lower)])


class KnownCounts(unittest.TestCase):
    def test_two_mirrors_in_turn(self):
        for number in (2, 3, 4, 6, 0):
            for size in range((number or 8) + 1):
                counts = ([1] + [2] * (size - 1) + [1] if size else [1]) + [0] * 3
                given = ask(begin(2, chain(number)), *[between(k, in_turn(1, 0, size)) for k in range(len(counts))])
                self.assertEqual(given[1:], [[0, k] for k in counts], (number, size))

    def test_eight_different_mirrors(self):
        for number in (2, 3, 4, 6, 0):
            m = table(8, {(0, 7): 6, (1, 6): 4, (2, 5): 3, (3, 4): 0, (1, 2): 2}, other=number)
            for word in ([0, 1, 2, 3, 4, 5, 6, 7], [3, 1, 4, 0, 5, 7, 2, 6], [7, 2, 5]):
                given = ask(begin(8, m), *[between(k, word) for k in range(10)])
                self.assertEqual(given[1:], [[0, math.comb(len(word), k)] for k in range(10)], word)

    def test_all_lies_below_the_longest(self):
        longest = [0, 1, 0, 2, 1, 0]
        given = ask(begin(3, chain(3, 3)), *[between(k, longest) for k in range(8)])
        self.assertEqual(given[1:], [[0, k] for k in (1, 3, 5, 6, 5, 3, 1, 0)])

    def test_two_in_turn_and_others_once(self):
        # Below 0 1 0 lie 1, 2, 2, 1 and below two different mirrors 1, 2, 1: each with each.
        for number in (2, 3, 4, 6, 0):
            m = table(4, {(0, 1): 3}, other=number)
            given = ask(begin(4, m), *[between(k, [0, 1, 0, 2, 3]) for k in range(7)])
            self.assertEqual(given[1:], [[0, k] for k in (1, 4, 7, 7, 4, 1, 0)], number)


class Edges(unittest.TestCase):
    def test_the_empty_word(self):
        for n in (1, 2, 8):
            for number in (2, 3, 4, 6, 0):
                for word in ([], [0, 0], [n - 1] * 128):
                    m = table(n, {}, other=number)
                    given = ask(begin(n, m), between(0, word), between(1, word), between(128, word))
                    self.assertEqual(given, [[0], [0, 1], [0, 0], [0, 0]], (n, number))

    def test_the_word_itself_and_the_empty_one_are_counted(self):
        for word in some_words(2, 8, 8, 20):
            size = ask(begin(8, E8), length(word))[1][0]
            given = ask(begin(8, E8), between(0, word), between(size, word), between(size + 1, word))
            self.assertEqual(given, [[0], [0, 1], [0, 1], [0, 0]], word)

    def test_many_letters_but_a_length_of_8_or_less(self):
        for number in (3, 4, 0):
            m = table(8, {(i, i + 1): number for i in range(7)})
            for seed, word in enumerate(some_words(number, 8, 8, 10)):
                for size in (26, 127, 128):
                    wide = with_detours(seed, 8, word, size)
                    self.assertGreater(len(wide), 24)
                    short = ask(begin(8, m), *[between(k, word) for k in range(10)])
                    self.assertEqual(ask(begin(8, m), *[between(k, wide) for k in range(10)]), short, word)

    def test_letters_that_could_have_been_taken_out_do_not_count(self):
        given = ask(begin(3, chain(3, 3)), between(1, [0, 1, 1]), between(2, [2, 0, 1, 1]), between(2, [0, 1, 0, 1]))
        self.assertEqual(given, [[0], [0, 1], [0, 1], [0, 1]])

    def test_long_words_of_families_that_end(self):
        word = [0, 1] * 64
        given = ask(begin(2, chain(3)), *[between(k, word) for k in range(4)])
        self.assertEqual(given[1:], [[0, 1], [0, 2], [0, 1], [0, 0]])


class Refusals(unittest.TestCase):
    def test_a_length_k_above_128(self):
        for k in (129, 130, 256, 2147483648, 4294967295):
            for word in ([], [0], [0, 1, 2], [1, 1] * 64, list(range(8)) * 4, list(range(8)) * 16):
                given = ask(begin(8, E8), between(k, word), between(0, [1]))
                self.assertEqual(given, [[0], REFUSED, [0, 1]], (k, word))

    def test_words_whose_length_is_above_24(self):
        for size in (25, 26, 27, 64, 127, 128):
            for k in (0, 1, 24, 25, size, 128, 129, 4294967295):
                self.assertEqual(ask(begin(2, chain(0)), between(k, in_turn(0, 1, size))), [[0], REFUSED], (size, k))

    def test_the_length_counts_and_not_the_letters(self):
        m = table(8, {}, other=0)
        for seed, size in enumerate((25, 26, 40)):
            wide = with_detours(seed, 8, in_turn(3, 5, size), 128)
            self.assertEqual(ask(begin(8, m), between(0, wide), between(128, wide)), [[0], REFUSED, REFUSED])
        longest = list(range(8)) * 15
        self.assertEqual(ask(begin(8, E8), between(0, longest), between(1, longest)), [[0], REFUSED, REFUSED])

    def test_letters_that_no_mirror_has(self):
        for n in range(1, 9):
            for letter in (n, n + 1, 128, 255):
                for word in ([letter], [0, letter], [letter, 0], [letter, letter], [0] * 127 + [letter]):
                    for k in (0, 1, 128, 129):
                        given = ask(begin(n, table(n, {})), between(k, word), between(1, [0]))
                        self.assertEqual(given, [[0], REFUSED, [0, 1]], (n, word))

    def test_a_refusal_changes_nothing(self):
        asked = [between(1, [0, 1, 0]), length([0, 1, 0, 1]), between(3, [1, 0, 1])]
        for call in (between(129, [0]), between(0, [2]), between(1, [0, 255])):
            given = ask(begin(2, chain(3)), begin(2, chain(0), o=1), call, between(0, [0, 1] * 13, o=1), *asked)
            self.assertEqual(given, [[0], [0], REFUSED, REFUSED, [0, 2], [2], [0, 1]], call)


if __name__ == "__main__":
    unittest.main()
