"""Promise 7: order."""

import itertools
import math
import unittest

from tests.helper import (
    A1, A2, A4, A5, A6, A7, A8, B2, B4, B8, D4, D5, E6, E7, E8, F4, G2, REFUSED, EndlessShuffle, Shuffle,
    SignedShuffle, all_tables, all_words, ask, ask_begun, begin, chain, freely_shortened, in_turn, least, length,
    order, renumbered, ring, same, side_by_side, some_words, table, with_detours,
)

# No turn of so many mirrors, if it comes back at all, needs more times.
MOST_TIMES = {1: 2, 2: 6, 3: 6, 4: 12, 5: 12, 6: 30, 7: 30, 8: 60}


def smallest_uses(d):
    """How many rows a table of whole numbers needs at least to come back after d uses and not before."""
    rows = 0
    for prime in range(2, d + 1):
        power = 1
        while d % prime == 0:
            d //= prime
            power *= prime
        if power > 1:
            rows += 0 if power == 2 else power - power // prime
    return max(rows, 1)


def order_in_rows(shuffle, n, word):
    """How often until the row is as at first, in a family of rows that can't come back later than this."""
    first = shuffle(n, []).row
    for times in range(1, MOST_TIMES[n] + 1):
        if shuffle(n, list(word) * times).row == first:
            return times
    return 0


def order_of_free(word):
    """Where every two are told 0, only what can be peeled to one mirror or to none comes back."""
    word = freely_shortened(word)
    while len(word) > 1 and word[0] == word[-1]:
        word = word[1:-1]
    return {0: 1, 1: 2}.get(len(word), 0)


class LargestFamily:
    """Mirrors of the family of 696,729,600 turns as exchanges of 240 points in eight directions."""

    def __init__(self):
        self.simple = [(1, -1, -1, -1, -1, -1, -1, 1)]
        self.simple += [tuple(2 * (k == i + 1) - 2 * (k == i) for k in range(8)) for i in range(6)]
        self.simple.append((2, 2, 0, 0, 0, 0, 0, 0))
        self.points = list(self.simple)
        seen = set(self.points)
        for point in self.points:
            for i in range(8):
                other = self.thrown(point, i)
                if other not in seen:
                    seen.add(other)
                    self.points.append(other)

    def thrown(self, point, i):
        share = sum(x * y for x, y in zip(point, self.simple[i])) // 4
        return tuple(x - share * y for x, y in zip(point, self.simple[i]))

    def order(self, word):
        place = {point: k for k, point in enumerate(self.points)}
        rows = [[place[self.thrown(point, i)] for point in self.points] for i in range(8)]
        turn = list(range(len(self.points)))
        for letter in word:
            turn = [rows[letter][k] for k in turn]
        return math.lcm(*(self.round_trip(turn, k) for k in range(len(turn))))

    def round_trip(self, turn, start):
        k, steps = turn[start], 1
        while k != start:
            k, steps = turn[k], steps + 1
        return steps


class HowHighOrdersGo(unittest.TestCase):
    def test_the_most_times(self):
        for n, most in MOST_TIMES.items():
            possible = [d for d in range(1, 2000) if smallest_uses(d) <= n]
            self.assertEqual(max(possible), most)


class BesideWritingOut(unittest.TestCase):
    """Answers beside the word written behind itself as often as it may need."""

    def check(self, n, m, words):
        words = [word for word in words if len(word) * MOST_TIMES[n] <= 128]
        times = range(1, MOST_TIMES[n] + 1)
        given = ask_begun(n, m, [same(list(word) * k, []) for word in words for k in times])
        expected = []
        for place in range(len(words)):
            back = [k for k in times if given[place * len(times) + k - 1] == [1]]
            expected.append([back[0] if back else 0])
        self.assertEqual(ask_begun(n, m, map(order, words)), expected, m)

    def test_one_mirror(self):
        self.check(1, [1], all_words(1, 64))

    def test_two_mirrors(self):
        for m in all_tables(2):
            self.check(2, m, list(all_words(2, 6)) + some_words(2, 2, 20, 20) + some_words(1, 2, 21, 20))

    def test_three_mirrors(self):
        for seed, m in enumerate(all_tables(3)):
            self.check(3, m, list(all_words(3, 3)) + some_words(seed, 3, 11, 5) + some_words(seed, 3, 20, 5))

    def test_five_mirrors(self):
        for seed, number in itertools.product(range(4), (2, 3, 4, 6, 0)):
            m = renumbered(5, table(5, {(0, 1): 3, (1, 2): 4, (2, 3): 3, (3, 4): number}), seed)
            self.check(5, m, some_words(seed, 5, 9, 8) + some_words(seed, 5, 10, 8) + [(0, 1, 2, 3, 4)])

    def test_eight_mirrors(self):
        for number in (2, 3, 4, 6, 0):
            m = table(8, {(0, 7): 6, (1, 6): 4, (2, 5): 3, (3, 4): 0, (1, 2): 2}, other=number)
            self.check(8, m, all_words(8, 2))


class KnownOrders(unittest.TestCase):
    def test_two_mirrors_in_turn(self):
        for n in (2, 3, 8):
            for number in (2, 3, 4, 6, 0):
                m = table(n, {(0, n - 1): number})
                given = ask(begin(n, m), order([0, n - 1]), order([n - 1, 0]), order([0, n - 1] * 64))
                later = number // math.gcd(number, 64)
                self.assertEqual(given, [[0], [number], [number], [later]], (n, number))

    def test_all_mirrors_of_a_family(self):
        parted = [
            [A8], [B8], [E6], [E7], [E7, A1], [E6, A2], [E6, G2], [F4, A4], [F4, F4], [A4, A2, B2], [A2, A4, B2],
            [A6, G2], [A6, B2], [D5, A2], [D4, A4], [A7, A1], [A5, A2], [B4, A4], [A4, A4], [B2, A2, A1], [G2, G2],
            [A1] * 8, [A2] * 4,
        ]
        for parts in parted:
            n, m = side_by_side(*[part[0] for part in parts])
            expected = math.lcm(*[part[2] for part in parts])
            self.assertEqual(ask(begin(n, m), order(list(range(n)))), [[0], [expected]], parts)
            again = renumbered(n, m, n)
            self.assertEqual(ask(begin(n, again), order(list(range(n))[::-1])), [[0], [expected]], parts)

    def test_the_highest_order_of_eight_mirrors(self):
        n, m = side_by_side(A4[0], A2[0], B2[0])
        word = list(range(8))
        for times in (1, 7, 11, 13):
            self.assertEqual(ask(begin(n, m), order(word * times)), [[0], [60]])
        for times in (2, 3, 4, 5, 6, 10, 12, 15):
            self.assertEqual(ask(begin(n, m), order(word * times)), [[0], [60 // times]])

    def test_the_family_of_696_729_600_turns(self):
        family = LargestFamily()
        self.assertEqual(len(family.points), 240)
        words = [word for size in (2, 5, 8, 30, 127, 128) for word in some_words(size, 8, size, 12)]
        words += [tuple(range(8)), tuple(range(8)) * 15, tuple(range(7)), (0, 1, 2, 7, 4, 5), ()]
        expected = [[family.order(word)] for word in words]
        self.assertEqual(ask_begun(8, E8, map(order, words)), expected)
        self.assertEqual(expected[-5:], [[30], [2], [8], [15], [1]])

    def test_shuffles(self):
        for n in range(1, 9):
            words = [word for size in (n, 60, 127, 128) for word in some_words(size, n, size, 10)]
            expected = [[order_in_rows(Shuffle, n, word)] for word in words]
            self.assertEqual(ask_begun(n, chain(*[3] * (n - 1)), map(order, words)), expected)
            self.assertNotIn([0], expected)

    def test_signed_shuffles(self):
        for n in range(2, 9):
            words = [word for size in (n, 60, 127, 128) for word in some_words(size, n, size, 10)]
            expected = [[order_in_rows(SignedShuffle, n, word)] for word in words]
            self.assertEqual(ask_begun(n, chain(4, *[3] * (n - 2)), map(order, words)), expected)
            self.assertNotIn([0], expected)

    def test_endless_shuffles(self):
        for n in range(3, 9):
            words = [word for size in (2, 5, n, 60, 128) for word in some_words(size, n, size, 8)]
            expected = [[order_in_rows(EndlessShuffle, n, word)] for word in words]
            self.assertEqual(ask_begun(n, ring(n), map(order, words)), expected)
            self.assertIn([0], expected)
            self.assertNotEqual([[0]] * len(expected), expected)

    def test_every_two_never(self):
        for n in (2, 3, 8):
            words = some_words(n, n, 128, 40) + some_words(n, n, 3, 20)
            words += [u + (k % n,) + u[::-1] for k, u in enumerate(some_words(n, n, 63, 20))]
            expected = [[order_of_free(word)] for word in words]
            self.assertEqual(ask_begun(n, table(n, {}, other=0), map(order, words)), expected)
            self.assertIn([0], expected)
            self.assertIn([2], expected)


class Never(unittest.TestCase):
    def test_all_mirrors_of_a_family_that_never_ends(self):
        tables = [
            ring(3), ring(8), ring(3, 4), ring(3, 6), ring(4, 4), chain(4, 4), chain(3, 6), chain(6, 6), chain(4, 6),
            chain(4, 3, 4), chain(3, 3, 4, 3), chain(4, 3, 3, 3, 3, 3, 4), chain(3, 4, 4, 3),
            chain(3, 3, 3, 3, 3, 3, 6),
            table(5, {(0, 1): 3, (0, 2): 3, (0, 3): 3, (0, 4): 3}), table(8, {}, other=3), table(8, {}, other=4),
            table(8, {(i, i + 1): 3 for i in range(6)} | {(3, 7): 3}),
            chain(0), chain(0, 3), chain(3, 0, 4), table(8, {}, other=0), table(8, {(0, 7): 0}),
        ]
        for m in tables:
            n = math.isqrt(len(m))
            word = list(range(n))
            given = ask(begin(n, m), order(word), order(word[::-1]), order(word * (128 // n)), order(word[1:]))
            self.assertEqual(given[1:4], [[0], [0], [0]], m)

    def test_parts_that_come_back_do_not_hide_one_that_never_does(self):
        n, m = side_by_side(A4[0], chain(4, 4))
        words = [0, 1, 2, 3], [4, 5, 6], [0, 1, 2, 3, 4, 5], [0, 1, 2, 3, 4, 5, 6]
        given = ask(begin(n, m), *map(order, words))
        self.assertEqual(given, [[0], [5], [0], [20], [0]])

    def test_parts_that_come_back_within_a_family_that_never_ends(self):
        n, m = side_by_side(A4[0], A2[0], A1[0])
        told = {(i, j): m[n * i + j] for i, j in itertools.combinations(range(n), 2)}
        for number in (0, 3, 4, 6):
            joined = table(8, told | {(i, 7): number for i in range(7)})
            for u in some_words(number, 8, 60, 10):
                word = list(u) + list(range(7)) + list(u[::-1])
                self.assertEqual(len(word), 127)
                self.assertEqual(ask(begin(8, joined), order(word), order(word + [7])), [[0], [30], [0]], number)


class Edges(unittest.TestCase):
    def test_the_empty_word_is_written_once(self):
        for n in (1, 2, 8):
            for number in (2, 3, 4, 6, 0):
                m = table(n, {}, other=number)
                self.assertEqual(ask(begin(n, m), order([]), order([0, 0]), order([n - 1] * 128)), [[0], [1], [1], [1]])

    def test_words_that_mean_the_same_as_the_empty_one(self):
        for number in (2, 3, 4, 6):
            given = ask(begin(2, chain(number)), order(in_turn(0, 1, 2 * number)), order([0, 1] * number * 5))
            self.assertEqual(given, [[0], [1], [1]], number)
        for u in some_words(3, 8, 64, 10):
            self.assertEqual(ask(begin(8, E8), order(u + u[::-1])), [[0], [1]])
            self.assertEqual(ask(begin(8, table(8, {}, other=0)), order(u + u[::-1])), [[0], [1]])

    def test_one_mirror_comes_back_the_second_time(self):
        for n in (1, 2, 8):
            for number in (2, 3, 4, 6, 0):
                calls = [order([i]) for i in range(n)] + [order([i] * 127) for i in range(n)]
                self.assertEqual(ask_begun(n, table(n, {}, other=number), calls), [[2]] * (2 * n))

    def test_the_same_meaning_has_the_same_order(self):
        for seed, word in enumerate(some_words(4, 8, 9, 20)):
            wide = with_detours(seed, 8, word, 128)
            given = ask(begin(8, E8), order(word), order(wide), order(word[::-1]), order(word[3:] + word[:3]))
            self.assertEqual(given[1:], [given[1]] * 4)


class Refusals(unittest.TestCase):
    def test_letters_that_no_mirror_has(self):
        for n in range(1, 9):
            for letter in (n, n + 1, 128, 255):
                for word in ([letter], [0, letter], [letter, 0], [letter, letter], [0] * 127 + [letter]):
                    self.assertEqual(ask(begin(n, table(n, {})), order(word), order([0])), [[0], REFUSED, [2]], word)

    def test_a_refusal_changes_nothing(self):
        given = ask(begin(2, chain(3)), order([0, 1, 2]), order([0, 1]), length([0, 1, 0, 1]), least([1, 0, 1]))
        self.assertEqual(given, [[0], REFUSED, [3], [2], [0, 0, 1, 0]])


if __name__ == "__main__":
    unittest.main()
