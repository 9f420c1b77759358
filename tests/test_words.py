"""Promises 2 to 5, together, beside words that are reckoned in other ways."""

import unittest

from tests.helper import (
    E8, REFUSED, EndlessShuffle, Shuffle, SignedShuffle, all_tables, all_words, ask, ask_begun, begin, chain,
    ends, freely_shortened, in_turn, least, length, same, shortest_words, some_words, table,
)


class BesideSteps(unittest.TestCase):
    """Answers beside what the document's own steps lead to, for short words."""

    def check(self, n, m, words):
        words = list(words)
        reckoned = [shortest_words(n, m, word) for word in words]
        self.assertEqual(ask_begun(n, m, map(length, words)), [[len(min(found))] for found in reckoned], m)
        self.assertEqual(ask_begun(n, m, map(least, words)), [[0] + list(min(found)) for found in reckoned], m)
        last = [{found_word[-1] for found_word in found if found_word} for found in reckoned]
        self.assertEqual(ask_begun(n, m, map(ends, words)), [[sum(2 ** i for i in found)] for found in last], m)
        pairs = list(zip(range(len(words)), range(1, len(words))))
        pairs += [(k, (7 * k) // 11) for k in range(len(words))]
        given = ask_begun(n, m, [same(words[x], words[y]) for x, y in pairs])
        self.assertEqual(given, [[int(reckoned[x] == reckoned[y])] for x, y in pairs], m)

    def test_one_mirror(self):
        self.check(1, [1], all_words(1, 20))

    def test_two_mirrors(self):
        for m in all_tables(2):
            self.check(2, m, all_words(2, 8))

    def test_three_mirrors(self):
        for m in all_tables(3):
            self.check(3, m, list(all_words(3, 4)) + some_words(3, 3, 11, 30))

    def test_four_mirrors(self):
        for seed, m in enumerate(all_tables(4)):
            if seed % 61 == 0:
                self.check(4, m, some_words(seed, 4, 13, 30))

    def test_eight_mirrors(self):
        for seed, number in enumerate((2, 3, 4, 6, 0)):
            m = table(8, {(0, 7): 6, (1, 6): 4, (2, 5): 3, (3, 4): 0, (1, 2): 2}, other=number)
            self.check(8, m, some_words(seed, 8, 7, 60))

    def test_every_two_of_a_family_of_twenty_four(self):
        m = chain(3, 3)
        words = list(all_words(3, 4))
        reckoned = [frozenset(shortest_words(3, m, word)) for word in words]
        given = ask_begun(3, m, [same(a, b) for a in words for b in words])
        self.assertEqual(given, [[int(a == b)] for a in reckoned for b in reckoned])


class LongWords(unittest.TestCase):
    """Words of up to 128 letters, in families of which another reckoning is known."""

    def check_shuffles(self, n, m, shuffle):
        words = [word for size in (60, 127, 128) for word in some_words(size, n, size, 40)]
        turns = [shuffle(n, word) for word in words]
        self.assertEqual(ask_begun(n, m, map(length, words)), [[turn.length()] for turn in turns])
        self.assertEqual(ask_begun(n, m, map(ends, words)), [[turn.ends()] for turn in turns])
        for turn, answer in zip(turns, ask_begun(n, m, map(least, words))):
            self.assertEqual(answer[0], 0)
            self.assertEqual(len(answer) - 1, turn.length())
            self.assertEqual(shuffle(n, answer[1:]).row, turn.row)
        found = [answer[1:] for answer in ask_begun(n, m, map(least, words))]
        self.assertEqual(ask_begun(n, m, map(same, words, found)), [[1] for word in words])
        changed = [word[:-1] + ((word[-1] + 1) % n,) for word in words]
        self.assertEqual(ask_begun(n, m, map(same, words, changed)), [[0] for word in words])

    def test_shuffles(self):
        for n in (2, 3, 5, 8):
            self.check_shuffles(n, chain(*[3] * (n - 1)), Shuffle)

    def test_signed_shuffles(self):
        for n in (2, 3, 5, 8):
            self.check_shuffles(n, chain(4, *[3] * (n - 2)), SignedShuffle)

    def test_endless_shuffles(self):
        for n in (3, 5, 8):
            ring = {(i, (i + 1) % n): 3 for i in range(n)}
            self.check_shuffles(n, table(n, ring), EndlessShuffle)

    def test_every_two_never(self):
        for n in (2, 3, 8):
            words = some_words(n, n, 128, 60) + [in_turn(0, 1, 128), in_turn(n - 1, 0, 127)]
            m = table(n, {}, other=0)
            shortened = [freely_shortened(word) for word in words]
            self.assertEqual(ask_begun(n, m, map(least, words)), [[0] + word for word in shortened])
            self.assertEqual(ask_begun(n, m, map(length, words)), [[len(word)] for word in shortened])
            self.assertEqual(ask_begun(n, m, map(ends, words)), [[2 ** w[-1] if w else 0] for w in shortened])
            self.assertEqual(ask_begun(n, m, map(same, words, shortened)), [[1] for word in words])

    def test_every_two_twice(self):
        words = some_words(2, 8, 128, 60)
        odd = [[i for i in range(8) if word.count(i) % 2] for word in words]
        m = table(8, {})
        self.assertEqual(ask_begun(8, m, map(least, words)), [[0] + word for word in odd])
        self.assertEqual(ask_begun(8, m, map(ends, words)), [[sum(2 ** i for i in word)] for word in odd])

    def test_two_mirrors_in_turn(self):
        for number in (2, 3, 4, 6, 0):
            for size in range(129):
                rest = size % (2 * number) if number else size
                short = min(rest, 2 * number - rest) if number else rest
                full = number and short == number
                given = ask(begin(2, chain(number)), length(in_turn(0, 1, size)), ends(in_turn(0, 1, size)))
                last = 1 if rest == short else 0
                last = 3 if full else 0 if short == 0 else 2 ** ((short + last) % 2)
                self.assertEqual(given, [[0], [short], [last]], (number, size))


class LargestFamily(unittest.TestCase):
    """The family of 696,729,600 turns."""

    def test_the_longest(self):
        word = list(range(8)) * 15
        given = ask(begin(8, E8), length(word), ends(word), same(word, word[::-1]), least(word))
        self.assertEqual(given[:4], [[0], [120], [255], [1]])
        self.assertEqual(len(given[4]), 121)
        self.assertEqual(given[4][:8], [0, 0, 1, 0, 2, 1, 0, 3])
        self.assertEqual(ask(begin(8, E8), same(word, given[4][1:]), least(given[4][1:])), [[0], [1], given[4]])

    def test_the_longest_shortened(self):
        longest = list(range(8)) * 15
        for k in range(9):
            word = longest + list(range(k))
            self.assertEqual(len(word), 120 + k)
            self.assertEqual(ask(begin(8, E8), length(word)), [[0], [120 - k]])

    def test_the_longest_commutes_with_every_mirror(self):
        longest = list(range(8)) * 15
        for i in range(8):
            given = ask(begin(8, E8), same([i] + longest, longest + [i]), ends(longest + [i]), same(longest, [i]))
            self.assertEqual(given, [[0], [1], [255 - 2 ** i], [0]])

    def test_steps_change_nothing(self):
        for word in some_words(8, 8, 100, 20):
            put_in = word[:40] + (3, 3, 7, 7) + word[40:70] + (2, 7, 2, 7, 2, 7) + word[70:]
            given = ask(begin(8, E8), same(word, put_in), least(word), least(put_in), ends(word), ends(put_in))
            self.assertEqual(given[1], [1])
            self.assertEqual(given[2], given[3])
            self.assertEqual(given[4], given[5])

    def test_with_the_last_mirror_at_another_one_it_never_ends(self):
        m = table(8, {(i, i + 1): 3 for i in range(6)} | {(3, 7): 3})
        word = list(range(8)) * 16
        self.assertEqual(ask(begin(8, m), length(word)), [[0], [128]])


class Edges(unittest.TestCase):
    def test_the_empty_word(self):
        for n in (1, 2, 8):
            for number in (2, 3, 4, 6, 0):
                m = table(n, {}, other=number)
                given = ask(begin(n, m), same([], []), length([]), least([]), ends([]))
                self.assertEqual(given, [[0], [1], [0], [0], [0]])

    def test_the_empty_word_beside_others(self):
        given = ask(begin(2, chain(3)), same([], [0]), same([1], []), same([], [1, 1]), same([0, 1] * 3, []))
        self.assertEqual(given, [[0], [0], [0], [1], [1]])

    def test_a_word_that_comes_to_nothing(self):
        word = [0, 1] * 6
        given = ask(begin(2, chain(6)), length(word), least(word), ends(word), same(word, []))
        self.assertEqual(given, [[0], [0], [0], [0], [1]])

    def test_least_is_the_first_in_order(self):
        given = ask(begin(3, chain(3, 3)), least([2, 0]), least([1, 0, 1]), least([2, 1, 2, 0, 1, 2]))
        self.assertEqual(given, [[0], [0, 0, 2], [0, 0, 1, 0], [0, 0, 1, 0, 2, 1, 0]])

    def test_how_a_word_begins_is_not_how_it_ends(self):
        given = ask(begin(3, chain(3, 3)), ends([0, 1]), ends([1, 0]), ends([1, 0, 2]), ends([0, 2, 1]))
        self.assertEqual(given, [[0], [2], [1], [5], [2]])

    def test_same_tells_a_word_from_its_reverse(self):
        for number in (3, 4, 6, 0):
            self.assertEqual(ask(begin(2, chain(number)), same([0, 1], [1, 0])), [[0], [0]])

    def test_exchanges_of_every_size(self):
        for number in (2, 3, 4, 6):
            for size in range(1, 8):
                given = ask(begin(2, chain(number)), same(in_turn(0, 1, size), in_turn(1, 0, size)))
                self.assertEqual(given, [[0], [int(size % number == 0)]], (number, size))


class Refusals(unittest.TestCase):
    def test_letters_that_no_mirror_has(self):
        for n in range(1, 9):
            for letter in (n, n + 1, 128, 254, 255):
                for word in ([letter], [0, letter], [letter, 0], [letter, letter], [0] * 127 + [letter]):
                    given = ask(
                        begin(n, table(n, {})), length(word), least(word), ends(word),
                        same(word, []), same([], word), same([0], word), same(word, word),
                    )
                    self.assertEqual(given, [[0]] + [REFUSED] * 7, (n, word))

    def test_a_refusal_is_one_number_and_changes_nothing(self):
        asked = [length([0, 1, 0, 1]), least([1, 0, 1]), ends([0, 1]), same([0, 1, 0], [1, 0, 1])]
        plain = ask(begin(2, chain(3)), *asked)
        refused = [length([2]), least([0, 255]), ends([3, 0]), same([0], [2]), same([9], [0])]
        for call in refused:
            given = ask(begin(2, chain(3)), call, *asked)
            self.assertEqual(given, [[0], REFUSED] + plain[1:], call)

    def test_the_letter_counts_for_the_set_that_is_named(self):
        given = ask(begin(2, chain(3), o=0), begin(5, table(5, {}), o=1), ends([4], o=0), ends([4], o=1))
        self.assertEqual(given, [[0], [0], REFUSED, [16]])

    def test_words_longer_than_128(self):
        for size in (129, 130, 1000):
            word = [0] * size
            given = ask(
                begin(1, [1]), length(word), least(word), ends(word), same(word, []), same([], word),
                length([0] * 128),
            )
            self.assertEqual(given, [[0]] + [REFUSED] * 5 + [[0]], size)


if __name__ == "__main__":
    unittest.main()
