"""Promises 9 and 10: settle and ask."""

import unittest

from helper import ASK, SETTLE, WAYS, begins, last, one_of, reads, run, singles

NO_WAY = (begins(2, singles(3)), one_of(0, []))


def told(signs, count, *given):
    """A script of which just the given ways are left."""
    return (begins(signs, singles(count)), reads(range(signs), given))


class Settle(unittest.TestCase):
    def test_one_way_is_settled_by_no_sign(self):
        self.assertEqual([0, 0], last(begins(1, singles(1)), SETTLE))
        self.assertEqual([0, 0], last(*told(3, 4, [0, 3, 1]), SETTLE))

    def test_one_sign_that_differs_in_all_ways(self):
        self.assertEqual([1, 1, 1], last(*told(3, 5, [0, 1, 2], [0, 2, 1], [0, 3, 1]), SETTLE))

    def test_the_first_of_several_signs(self):
        self.assertEqual([1, 1, 0], last(begins(2, singles(2)), SETTLE))
        self.assertEqual([1, 1, 1], last(*told(3, 3, [0, 1, 2], [0, 2, 1]), SETTLE))

    def test_two_signs(self):
        self.assertEqual([2, 2, 0, 1], last(begins(2, singles(3)), SETTLE))
        # 0 and 1 leave the last two ways alike; 0 and 2 don't.
        self.assertEqual([2, 2, 0, 2], last(*told(3, 5, [0, 1, 2], [2, 1, 3], [2, 1, 0], [0, 1, 3]), SETTLE))

    def test_a_later_pair_goes_before_three(self):
        ways = ([0, 1, 2, 3], [0, 1, 3, 2], [0, 1, 2, 4], [0, 1, 4, 2], [0, 1, 3, 4])
        self.assertEqual([2, 2, 2, 3], last(*told(4, 5, *ways), SETTLE))

    def test_all_but_one_sign_of_all_ways(self):
        self.assertEqual([3, 3, 0, 1, 2], last(begins(4, singles(4)), SETTLE))

    def test_all_signs(self):
        self.assertEqual([3, 3, 0, 1, 2], last(begins(3, singles(5)), SETTLE))

    def test_no_way(self):
        self.assertEqual([[-3], [0]], run(*NO_WAY, SETTLE, WAYS)[-2:])
        self.assertEqual([-3], last(begins(2, singles(1)), SETTLE))

    def test_no_signs_are_one_way(self):
        self.assertEqual([0, 0], last(SETTLE))


class Ask(unittest.TestCase):
    def test_the_sign_with_the_least_most(self):
        # Sign 0 has one value 3 times, sign 1 one value 2 times, sign 2 never twice the same.
        ways = ([0, 1, 2], [0, 1, 3], [0, 2, 1])
        self.assertEqual([2, 1, 1], last(*told(3, 4, *ways), ASK))

    def test_the_most_counts_not_how_many_values(self):
        # Sign 0: 3, 1, 1, 1 of its values; sign 1: 2, 2, 2.
        ways = ([0, 4], [0, 5], [0, 6], [1, 4], [2, 5], [3, 6])
        self.assertEqual([1, 1, 2], last(*told(2, 7, *ways), ASK))

    def test_the_first_of_several(self):
        self.assertEqual([0, 1, 2], last(begins(2, singles(3)), ASK))
        self.assertEqual([1, 1, 1], last(*told(3, 3, [0, 1, 2], [0, 2, 1]), ASK))

    def test_one_way(self):
        self.assertEqual([0, 1, 1], last(*told(2, 3, [2, 1]), ASK))

    def test_no_way(self):
        self.assertEqual([[-3], [0]], run(*NO_WAY, ASK, WAYS)[-2:])

    def test_no_sign(self):
        self.assertEqual([[-3], [1, 0]], run(ASK, WAYS))


if __name__ == "__main__":
    unittest.main()
