"""The interface: the form of what is handed in and given back, and what is kept."""

import unittest

from mirrorwordsyard.mirrors import answers
from tests.helper import (
    E8, REFUSED, ask, begin, below, between, chain, count, ends, in_turn, least, length, longest, order, ring, same,
    some_words, split, table, with_detours,
)


class Guarded(list):
    """A list that may only be read."""

    def refuse(self, *anything):
        raise AssertionError("what was handed in is being changed")

    append = extend = insert = pop = remove = clear = sort = reverse = refuse
    __setitem__ = __delitem__ = __iadd__ = __imul__ = refuse


MIXED = (
    begin(3, chain(4, 3)) + begin(2, chain(0), o=1) + least([2, 0, 1, 0, 1, 0]) + least([1, 1], o=1)
    + same([0, 2], [2, 0]) + length([3]) + begin(9, []) + ends([0, 2], o=0) + least([0, 1, 0], o=1)
)
MIXED_ANSWERS = [1, 0, 1, 0, 5, 0, 2, 1, 0, 1, 1, 0, 1, 1, 1, -2, 1, -2, 1, 5, 4, 0, 0, 1, 0]

ALL_TEN = (
    begin(3, chain(4, 3)) + begin(2, chain(0), o=1) + below([0, 1], [0, 1, 0]) + below([0, 1], [1, 0], o=1)
    + order([0, 1]) + order([0, 1], o=1) + order([]) + count(2) + count(128, o=1) + count(0)
    + longest() + longest(o=1) + between(1, [0, 1, 0]) + between(5, [0, 1], o=1)
    + same([0, 1] * 2, [1, 0] * 2) + length([0, 1] * 4, o=1) + least([2, 0]) + least([], o=1) + ends([2, 0])
    + below([3], []) + order([255]) + count(129) + count(4294967295, o=1) + between(129, []) + between(0, [2], o=1)
    + between(0, in_turn(1, 0, 25), o=1) + begin(3, chain(4, 5)) + longest() + begin(2, chain(3)) + longest()
)
ALL_TEN_ANSWERS = [
    [0], [0], [1], [0],
    [4], [0], [1], [0, 5], [0, 2], [0, 1],
    [0, 0, 1, 0, 1, 2, 1, 0, 1, 2], [-1], [0, 2], [0, 0],
    [1], [8], [0, 0, 2], [0], [5],
    REFUSED, REFUSED, REFUSED, REFUSED, REFUSED, REFUSED,
    REFUSED, REFUSED, [0, 0, 1, 0, 1, 2, 1, 0, 1, 2], [0], [0, 0, 1, 0],
]


def full_list():
    """Four hundred calls on both sets, all ten among them, with as many letters as 30000 numbers leave room for."""
    words = some_words(400, 8, 55, 400)
    short = [with_detours(k, 8, word[:8], 56) for k, word in enumerate(words)]
    kinds = (
        lambda k, o: same(words[k], words[k + 1], o), lambda k, o: length(words[k], o),
        lambda k, o: least(words[k], o), lambda k, o: ends(words[k], o),
        lambda k, o: below(words[k][::2], words[k], o), lambda k, o: order(words[k], o),
        lambda k, o: count(k % 3, o), lambda k, o: between(k % 9, short[k], o),
        lambda k, o: order(short[k], o), lambda k, o: below(short[k], words[k], o),
    )
    first = [begin(8, E8), begin(8, table(8, {(0, 7): 0}, other=3), o=1), longest(o=1), begin(9, [])]
    return first + [kinds[k % 10](k, k // 10 % 2) for k in range(396)]


class Answers(unittest.TestCase):
    def test_a_list_of_one_call(self):
        self.assertEqual(answers([0, 0, 1, 1, 1]), [1, 0])
        self.assertEqual(answers([0, 1, 0, 0]), [1, -2])

    def test_each_call_with_its_numbers_written_out(self):
        self.assertEqual(answers([0, 0, 2, 4, 1, 3, 3, 1, 1, 0, 3, 0, 1, 0, 3, 1, 0, 1]), [1, 0, 1, 1])
        self.assertEqual(answers([0, 0, 2, 4, 1, 3, 3, 1, 2, 0, 4, 0, 1, 0, 1]), [1, 0, 1, 2])
        self.assertEqual(answers([0, 0, 2, 4, 1, 3, 3, 1, 3, 0, 4, 0, 1, 0, 1]), [1, 0, 3, 0, 1, 0])
        self.assertEqual(answers([0, 0, 2, 4, 1, 3, 3, 1, 4, 0, 3, 0, 1, 0]), [1, 0, 1, 3])

    def test_how_many_stands_ahead_of_each_answer(self):
        self.assertEqual(answers(MIXED), MIXED_ANSWERS)

    def test_each_later_call_with_its_numbers_written_out(self):
        start = [0, 0, 2, 4, 1, 3, 3, 1]
        self.assertEqual(answers(start + [5, 0, 1, 0, 2, 1, 0]), [1, 0, 1, 1])
        self.assertEqual(answers(start + [5, 0, 2, 1, 0, 1, 0]), [1, 0, 1, 0])
        self.assertEqual(answers(start + [6, 0, 2, 1, 0]), [1, 0, 1, 3])
        self.assertEqual(answers(start + [7, 0, 1]), [1, 0, 2, 0, 2])
        self.assertEqual(answers(start + [8, 0]), [1, 0, 4, 0, 0, 1, 0])
        self.assertEqual(answers([0, 1, 2, 4, 1, 0, 0, 1, 8, 1]), [1, 0, 1, -1])
        self.assertEqual(answers(start + [9, 0, 2, 3, 1, 0, 1]), [1, 0, 2, 0, 2])
        self.assertEqual(answers(start + [9, 0, 0, 0]), [1, 0, 2, 0, 1])
        self.assertEqual(answers(start + [7, 0, 129, 9, 0, 129, 0]), [1, 0, 1, -2, 1, -2])

    def test_all_ten_calls_on_both_sets(self):
        self.assertEqual(split(answers(ALL_TEN)), ALL_TEN_ANSWERS)

    def test_all_ten_calls_only_read_what_is_handed_in(self):
        handed = Guarded(ALL_TEN)
        self.assertEqual(split(answers(handed)), ALL_TEN_ANSWERS)
        self.assertEqual(list(handed), ALL_TEN)

    def test_all_ten_calls_keep_nothing(self):
        answers(begin(3, ring(3)) + begin(1, [1], o=1) + longest() + count(5) + between(1, [0, 1]) + order([0, 1, 2]))
        self.assertEqual(split(answers(ALL_TEN)), ALL_TEN_ANSWERS)
        self.assertEqual(split(answers(ALL_TEN)), ALL_TEN_ANSWERS)

    def test_refusals_change_nothing_in_what_comes_later(self):
        refused = [
            begin(0, []), begin(1, [2], o=1), same([8], []), length([9]), least([255]), ends([8]), below([8], [0]),
            below([0], [8], o=1), order([8], o=1), count(129), count(129, o=1), between(129, [0]), between(0, [8]),
        ]
        calls = full_list()[:200]
        plain = ask(*calls)
        among = []
        for k, call in enumerate(calls):
            among += [call, refused[k % len(refused)]] if k >= 2 else [call]
        given = ask(*among)
        self.assertEqual(given[:2] + given[2::2], plain)
        self.assertEqual(given[3::2], [REFUSED] * len(plain[2:]))

    def test_a_full_list_is_as_its_calls_one_by_one(self):
        calls = full_list()
        self.assertEqual(len(calls), 400)
        numbers = sum(map(len, calls))
        self.assertGreater(numbers, 25000)
        given = ask(*calls)
        self.assertEqual(ask(*calls), given)
        for call, answer in zip(calls[4:], given[4:]):
            self.assertEqual(ask(calls[0], calls[1], call)[2], answer, call)

    def test_one_number_behind_zero_for_count_and_between(self):
        for call, answer in zip(full_list(), ask(*full_list())):
            if call[0] in (7, 9):
                self.assertEqual((len(answer), answer[0]), (2, 0), call)
            elif call[0] not in (3, 8):
                self.assertEqual(len(answer), 1, call)

    def test_four_hundred_calls_of_each_later_sort(self):
        chosen = (
            (below([0], [0]), [1]), (order([0]), [2]), (count(1), [0, 8]), (between(1, [0]), [0, 1]),
            (longest(o=1), [0, 0, 1, 0]),
        )
        for call, answer in chosen:
            calls = [begin(8, E8), begin(2, chain(3), o=1)] + [call] * 398
            self.assertEqual(ask(*calls)[2:], [answer] * 398)

    def test_thirty_thousand_numbers_of_below_and_of_order(self):
        never = table(8, {}, other=0)
        words = some_words(31, 8, 128, 226)
        calls = [begin(8, never)] + [order(word) for word in words]
        self.assertEqual(ask(*calls)[1:], [[0]] * len(words))
        calls = [begin(8, never)] + [below(a, b) for a, b in zip(words[:114], words[112:])]
        self.assertEqual(len(ask(*calls)), 115)

    def test_an_empty_least_word_is_a_zero_alone(self):
        self.assertEqual(answers(begin(1, [1]) + least([]) + least([0, 0])), [1, 0, 1, 0, 1, 0])

    def test_four_hundred_calls(self):
        calls = [begin(8, E8)] + [length([k % 8] * (k % 3)) for k in range(399)]
        self.assertEqual(ask(*calls), [[0]] + [[k % 3 % 2] for k in range(399)])

    def test_four_hundred_begins(self):
        calls = [begin(8 if k % 2 else 9, E8 if k % 2 else [], o=k // 2 % 2) for k in range(400)]
        self.assertEqual(ask(*calls), [[0] if k % 2 else [-2] for k in range(400)])

    def test_almost_thirty_thousand_numbers(self):
        words = some_words(30, 8, 127, 229)
        calls = [begin(8, E8)] + [least(word) for word in words]
        given = ask(*calls)
        again = ask(begin(8, E8), *[least(answer[1:]) for answer in given[1:]])
        self.assertEqual(given, again)

    def test_what_is_handed_in_is_only_read(self):
        handed = Guarded(MIXED)
        self.assertEqual(answers(handed), MIXED_ANSWERS)
        self.assertEqual(list(handed), MIXED)

    def test_nothing_is_kept_from_one_time_to_the_next(self):
        first = answers(MIXED)
        other = answers(begin(1, [1]) + begin(2, chain(6), o=1) + same([0], [0]))
        self.assertEqual(other, [1, 0, 1, 0, 1, 1])
        self.assertEqual(answers(MIXED), first)

    def test_what_is_given_back_is_a_new_list_of_ints(self):
        first = answers(MIXED)
        self.assertIs(type(first), list)
        self.assertEqual({type(number) for number in first}, {int})
        first.clear()
        self.assertEqual(answers(MIXED), MIXED_ANSWERS)


if __name__ == "__main__":
    unittest.main()
