"""Promise 6: below."""

import unittest

from tests.helper import (
    E8, REFUSED, EndlessShuffle, Shuffle, SignedShuffle, all_below, all_tables, all_words, ask, ask_begun, begin,
    below, chain, differing, first_shortest, freely_shortened, in_turn, least, length, ring, same, some_words, table,
    with_detours,
)


def left_out(word, seed):
    """The word without about every third letter."""
    return [letter for place, letter in enumerate(word) if (place * place + seed) % 7 > 1]


class BesideTheDefinition(unittest.TestCase):
    """Answers beside all that comes of leaving out letters of all shortest words, for short words."""

    def check(self, n, m, lower, upper):
        lower = [tuple(word) for word in lower]
        upper = [tuple(word) for word in upper]
        calls = [below(a, b) for b in upper for a in lower]
        expected = []
        for b in upper:
            found = all_below(n, m, b)
            expected += [[int(first_shortest(n, tuple(m), a) in found)] for a in lower]
        self.assertEqual(differing(calls, ask_begun(n, m, calls), expected), [], m)

    def test_one_mirror(self):
        words = list(all_words(1, 5))
        self.check(1, [1], words, words)

    def test_two_mirrors(self):
        for m in all_tables(2):
            words = list(all_words(2, 5))
            self.check(2, m, words, words)

    def test_three_mirrors(self):
        for seed, m in enumerate(all_tables(3)):
            self.check(3, m, all_words(3, 3), some_words(seed, 3, 6, 6))

    def test_four_mirrors(self):
        for seed, m in enumerate(all_tables(4)):
            if seed % 97 == 0:
                self.check(4, m, all_words(4, 3), some_words(seed, 4, 7, 5))

    def test_eight_mirrors(self):
        for seed, number in enumerate((2, 3, 4, 6, 0)):
            m = table(8, {(0, 7): 6, (1, 6): 4, (2, 5): 3, (3, 4): 0, (1, 2): 2}, other=number)
            upper = some_words(seed, 8, 6, 5)
            self.check(8, m, list(all_words(8, 2)) + [left_out(b, k) for b in upper for k in range(7)], upper)

    def test_every_two_of_a_family_of_twenty_four(self):
        words = list(all_words(3, 4))
        self.check(3, chain(3, 3), words, words[::2])


class LongWords(unittest.TestCase):
    """Words of up to 128 letters, in families of which another reckoning is known."""

    def check_shuffles(self, n, m, shuffle):
        upper = [word for size in (30, 127, 128) for word in some_words(size, n, size, 30)]
        pairs = [(left_out(b, k), b) for k, b in enumerate(upper)]
        pairs += [(left_out(least_of, k), b) for k, (least_of, b) in enumerate(zip(self.least_of(n, m, upper), upper))]
        pairs += list(zip(upper, upper[1:])) + [(b, a) for a, b in pairs]
        expected = [[int(shuffle(n, a).lies_below(shuffle(n, b)))] for a, b in pairs]
        self.assertEqual(differing(pairs, ask_begun(n, m, [below(a, b) for a, b in pairs]), expected), [])
        self.assertIn([0], expected)
        self.assertIn([1], expected)

    def least_of(self, n, m, words):
        return [answer[1:] for answer in ask_begun(n, m, map(least, words))]

    def test_shuffles(self):
        for n in (2, 3, 5, 8):
            self.check_shuffles(n, chain(*[3] * (n - 1)), Shuffle)

    def test_signed_shuffles(self):
        for n in (2, 3, 5, 8):
            self.check_shuffles(n, chain(4, *[3] * (n - 2)), SignedShuffle)

    def test_endless_shuffles(self):
        for n in (3, 5, 8):
            self.check_shuffles(n, ring(n), EndlessShuffle)

    def test_every_two_never(self):
        for n in (2, 3, 8):
            upper = some_words(n, n, 128, 40)
            pairs = [(left_out(b, k), b) for k, b in enumerate(upper)]
            pairs += [(left_out(freely_shortened(b), k), b) for k, b in enumerate(upper)]
            expected = [[int(self.is_within(freely_shortened(a), freely_shortened(b)))] for a, b in pairs]
            self.assertEqual(ask_begun(n, table(n, {}, other=0), [below(a, b) for a, b in pairs]), expected)
            self.assertIn([0], expected[:len(upper)])
            self.assertEqual(expected[len(upper):], [[1] for b in upper])

    def is_within(self, a, b):
        """Whether a is b with letters left out."""
        rest = iter(b)
        return all(letter in rest for letter in a)

    def test_all_lies_below_the_longest_of_the_largest_family(self):
        longest = list(range(8)) * 15
        for word in some_words(6, 8, 128, 20):
            given = ask(begin(8, E8), below(word, longest), below(longest, word), below(longest + [3], longest))
            self.assertEqual(given, [[0], [1], [0], [1]])
        self.assertEqual(ask(begin(8, E8), below(longest, longest[::-1])), [[0], [1]])

    def test_two_mirrors_in_turn_lie_below_all_longer_ones(self):
        for size in (0, 1, 2, 64, 127, 128):
            for other in (0, 1, 2, 63, 64, 65, 126, 127, 128):
                alike = int(other <= size)
                crossed = int(other < size or size == 0 == other)
                given = ask(
                    begin(2, chain(0)), below(in_turn(0, 1, other), in_turn(0, 1, size)),
                    below(in_turn(1, 0, other), in_turn(0, 1, size)),
                )
                self.assertEqual(given, [[0], [alike], [crossed]], (size, other))


class Edges(unittest.TestCase):
    def test_the_empty_word_lies_below_all(self):
        for n in (1, 2, 8):
            for number in (2, 3, 4, 6, 0):
                m = table(n, {}, other=number)
                words = [[], [0], [n - 1], [0, 0], list(range(n)), list(range(n)) * 16]
                self.assertEqual(ask_begun(n, m, [below([], word) for word in words]), [[1] for word in words])

    def test_nothing_but_the_empty_word_lies_below_it(self):
        given = ask(
            begin(2, chain(3)), below([0], []), below([1], []), below([0, 1], []), below([0, 0], []),
            below([0, 1] * 3, []), below([], [1, 1]), below([0], [1, 1]), below([0, 1] * 3, [0, 1] * 3),
        )
        self.assertEqual(given, [[0], [0], [0], [0], [1], [1], [1], [0], [1]])

    def test_a_word_lies_below_itself(self):
        for word in some_words(5, 8, 128, 20) + [(), (7,)]:
            self.assertEqual(ask(begin(8, E8), below(word, word)), [[0], [1]])

    def test_a_word_lies_below_another_that_means_the_same(self):
        given = ask(
            begin(3, chain(3, 4)), below([0, 1, 0], [1, 0, 1]), below([1, 0, 1], [0, 1, 0]),
            below([0, 2], [2, 0]), below([1, 2, 1, 2], [2, 1, 2, 1]), below([0, 0, 1], [1, 2, 2]),
        )
        self.assertEqual(given, [[0], [1], [1], [1], [1], [1]])

    def test_one_way_alone(self):
        given = ask(begin(3, chain(3, 3)), below([1], [0, 1]), below([0, 1], [1]), below([0, 2], [0, 1, 2]))
        self.assertEqual(given, [[0], [1], [0], [1]])

    def test_neither_way(self):
        for a, b in (([0], [1]), ([0, 1], [1, 0]), ([0, 1], [1, 2]), ([0, 2], [0, 1])):
            self.assertEqual(ask(begin(3, chain(3, 3)), below(a, b), below(b, a)), [[0], [0], [0]], (a, b))

    def test_letters_may_be_left_out_in_the_middle(self):
        given = ask(begin(3, table(3, {}, other=0)), below([0, 0], [0, 1, 0]), below([0, 2], [0, 1, 2]))
        self.assertEqual(given, [[0], [1], [1]])

    def test_letters_that_could_have_been_taken_out_do_not_count(self):
        given = ask(
            begin(3, chain(3, 3)), below([1], [0, 1, 1]), below([2], [0, 2, 1, 1, 2]), below([0, 1, 0, 1, 0], [1]),
            below([0, 0, 2, 2], [1]), below([0, 1], [1, 0, 1, 0]),
        )
        self.assertEqual(given, [[0], [0], [0], [1], [1], [1]])

    def test_detours_on_either_side_change_nothing(self):
        for seed, b in enumerate(some_words(9, 8, 40, 20)):
            a = left_out(b, seed)
            wide_a, wide_b = with_detours(seed, 8, a, 128), with_detours(seed + 1, 8, b, 127)
            given = ask(begin(8, E8), below(a, b), below(wide_a, b), below(a, wide_b), below(wide_a, wide_b))
            self.assertEqual(given[1:], [given[1]] * 4)


class Refusals(unittest.TestCase):
    def test_letters_that_no_mirror_has(self):
        for n in range(1, 9):
            for letter in (n, n + 1, 128, 255):
                for word in ([letter], [0, letter], [letter, 0], [letter, letter], [0] * 127 + [letter]):
                    given = ask(
                        begin(n, table(n, {})), below(word, []), below([], word), below([0], word), below(word, [0]),
                        below(word, word), below([0], [0]),
                    )
                    self.assertEqual(given, [[0]] + [REFUSED] * 5 + [[1]], (n, word))

    def test_a_refusal_changes_nothing(self):
        asked = [below([0, 1, 0], [1, 0, 1]), length([0, 1, 0, 1]), same([0], [1]), below([0], [1])]
        for call in (below([2], []), below([], [2]), below([0, 255], [0]), below([0], [1, 9])):
            given = ask(begin(2, chain(3)), call, *asked)
            self.assertEqual(given, [[0], REFUSED, [1], [2], [0], [0]], call)

    def test_the_letter_counts_for_the_set_that_is_named(self):
        given = ask(begin(2, chain(3)), begin(5, table(5, {}), o=1), below([4], [4]), below([4], [4], o=1))
        self.assertEqual(given, [[0], [0], REFUSED, [1]])


if __name__ == "__main__":
    unittest.main()
