"""The interface: the form of what is handed in and given back, and what is kept."""

import unittest

from mirrorwordsyard.mirrors import answers
from tests.helper import E8, ask, begin, chain, ends, least, length, same, some_words


class Guarded(list):
    """A list that may only be read."""

    def refuse(self, *anything):
        raise AssertionError("what was handed in is being changed")

    append = extend = insert = pop = remove = clear = sort = reverse = refuse
    __setitem__ = __delitem__ = __iadd__ = __imul__ = refuse


MIXED = (
    begin(3, chain(4, 3)) + begin(2, chain(0), o=1) + least([2, 0, 1, 0, 1, 0]) + least([1, 1], o=1)
    + same([0, 2], [2, 0]) + length([3]) + begin(9, []) + ends([0, 2], o=0) + least([0, 1, 0], o=1)
)
MIXED_ANSWERS = [1, 0, 1, 0, 5, 0, 2, 1, 0, 1, 1, 0, 1, 1, 1, -2, 1, -2, 1, 5, 4, 0, 0, 1, 0]


class Answers(unittest.TestCase):
    def test_a_list_of_one_call(self):
        self.assertEqual(answers([0, 0, 1, 1, 1]), [1, 0])
        self.assertEqual(answers([0, 1, 0, 0]), [1, -2])

    def test_each_call_with_its_numbers_written_out(self):
        self.assertEqual(answers([0, 0, 2, 4, 1, 3, 3, 1, 1, 0, 3, 0, 1, 0, 3, 1, 0, 1]), [1, 0, 1, 1])
        self.assertEqual(answers([0, 0, 2, 4, 1, 3, 3, 1, 2, 0, 4, 0, 1, 0, 1]), [1, 0, 1, 2])
        self.assertEqual(answers([0, 0, 2, 4, 1, 3, 3, 1, 3, 0, 4, 0, 1, 0, 1]), [1, 0, 3, 0, 1, 0])
        self.assertEqual(answers([0, 0, 2, 4, 1, 3, 3, 1, 4, 0, 3, 0, 1, 0]), [1, 0, 1, 3])

    def test_how_many_stands_ahead_of_each_answer(self):
        self.assertEqual(answers(MIXED), MIXED_ANSWERS)

    def test_an_empty_least_word_is_a_zero_alone(self):
        self.assertEqual(answers(begin(1, [1]) + least([]) + least([0, 0])), [1, 0, 1, 0, 1, 0])

    def test_four_hundred_calls(self):
        calls = [begin(8, E8)] + [length([k % 8] * (k % 3)) for k in range(399)]
        self.assertEqual(ask(*calls), [[0]] + [[k % 3 % 2] for k in range(399)])

    def test_four_hundred_begins(self):
        calls = [begin(8 if k % 2 else 9, E8 if k % 2 else [], o=k // 2 % 2) for k in range(400)]
        self.assertEqual(ask(*calls), [[0] if k % 2 else [-2] for k in range(400)])

    def test_almost_thirty_thousand_numbers(self):
        words = some_words(30, 8, 127, 229)
        calls = [begin(8, E8)] + [least(word) for word in words]
        given = ask(*calls)
        again = ask(begin(8, E8), *[least(answer[1:]) for answer in given[1:]])
        self.assertEqual(given, again)

    def test_what_is_handed_in_is_only_read(self):
        handed = Guarded(MIXED)
        self.assertEqual(answers(handed), MIXED_ANSWERS)
        self.assertEqual(list(handed), MIXED)

    def test_nothing_is_kept_from_one_time_to_the_next(self):
        first = answers(MIXED)
        other = answers(begin(1, [1]) + begin(2, chain(6), o=1) + same([0], [0]))
        self.assertEqual(other, [1, 0, 1, 0, 1, 1])
        self.assertEqual(answers(MIXED), first)

    def test_what_is_given_back_is_a_new_list_of_ints(self):
        first = answers(MIXED)
        self.assertIs(type(first), list)
        self.assertEqual({type(number) for number in first}, {int})
        first.clear()
        self.assertEqual(answers(MIXED), MIXED_ANSWERS)


if __name__ == "__main__":
    unittest.main()
