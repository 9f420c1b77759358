"""Promise 1: begin."""

import unittest

from tests.helper import E8, REFUSED, ask, begin, chain, length, same, table


class Begin(unittest.TestCase):
    def test_each_number_of_mirrors_from_one_to_eight(self):
        for n in range(1, 9):
            self.assertEqual(ask(begin(n, table(n, {}))), [[0]], n)

    def test_all_mirrors_of_the_set_can_be_used(self):
        for n in range(1, 9):
            word = list(range(n))
            self.assertEqual(ask(begin(n, table(n, {})), length(word), length([n])), [[0], [n], REFUSED], n)

    def test_numbers_of_mirrors_that_are_refused(self):
        for n in (0, 9, 10, 255, -1, -2, -8, -2147483648, 2147483647):
            self.assertEqual(ask(begin(n, [])), [REFUSED], n)

    def test_each_number_that_a_pair_may_be_told(self):
        for number in (2, 3, 4, 6, 0):
            self.assertEqual(ask(begin(2, [1, number, number, 1])), [[0]], number)

    def test_numbers_that_a_pair_may_not_be_told(self):
        for number in range(256):
            if number not in (0, 2, 3, 4, 6):
                self.assertEqual(ask(begin(2, [1, number, number, 1])), [REFUSED], number)

    def test_a_wrong_number_at_each_pair_of_eight(self):
        for i in range(8):
            for j in range(i):
                m = table(8, {(i, j): 5}, other=3)
                self.assertEqual(ask(begin(8, m)), [REFUSED], (i, j))

    def test_the_diagonal_must_be_one(self):
        for number in (0, 2, 3, 4, 6, 255):
            self.assertEqual(ask(begin(1, [number])), [REFUSED], number)
            for i in range(8):
                m = list(E8)
                m[8 * i + i] = number
                self.assertEqual(ask(begin(8, m)), [REFUSED], (number, i))

    def test_both_halves_must_be_the_same(self):
        for i in range(8):
            for j in range(8):
                if i != j:
                    m = list(E8)
                    m[8 * i + j] = 4
                    self.assertEqual(ask(begin(8, m)), [REFUSED], (i, j))

    def test_a_refused_begin_leaves_the_set_as_it_was(self):
        wrong = [
            begin(0, []), begin(9, []), begin(-2147483648, []), begin(2147483647, []),
            begin(1, [2]), begin(2, [1, 5, 5, 1]), begin(2, [1, 2, 3, 1]), begin(3, chain(4, 255)),
        ]
        for call in wrong:
            given = ask(begin(2, chain(4)), call, same([0, 1, 0, 1], [1, 0, 1, 0]), length([0, 1, 0]), length([2]))
            self.assertEqual(given, [[0], REFUSED, [1], [3], REFUSED], call)

    def test_a_set_can_be_begun_after_a_refusal(self):
        self.assertEqual(ask(begin(2, [1, 5, 5, 1]), begin(2, chain(3)), length([0, 1])), [REFUSED, [0], [2]])

    def test_a_second_begin_gives_new_mirrors(self):
        given = ask(
            begin(2, chain(3)), length([0, 1, 0, 1]), length([2]),
            begin(3, chain(6, 3)), length([0, 1, 0, 1]), length([2]),
            begin(1, [1]), length([0, 0, 0]), length([1]),
        )
        self.assertEqual(given, [[0], [2], REFUSED, [0], [4], [1], [0], [1], REFUSED])

    def test_the_sets_do_not_touch_each_other(self):
        given = ask(
            begin(2, chain(3), o=0), begin(3, chain(0, 4), o=1),
            length([0, 1, 0, 1], o=0), length([0, 1, 0, 1], o=1), length([2], o=0), length([2], o=1),
            begin(2, chain(5), o=1), length([2], o=1), begin(1, [1], o=0), length([2], o=1), length([1], o=0),
        )
        expected = [[0], [0], [2], [4], REFUSED, [1], REFUSED, [1], [0], [1], REFUSED]
        self.assertEqual(given, expected)

    def test_set_one_can_be_begun_alone(self):
        self.assertEqual(ask(begin(2, chain(3), o=1), length([0, 1, 0, 1], o=1)), [[0], [2]])


if __name__ == "__main__":
    unittest.main()
