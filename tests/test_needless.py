"""Promises 11 and 12: needless and clash."""

import unittest

from helper import (CLASH, NEEDLESS, WAYS, begins, drop, first_alike, last, last_alike, one_of, reads, run, singles,
                    stands)


class Needless(unittest.TestCase):
    def test_no_clues(self):
        self.assertEqual([0, 0], last(begins(1, singles(2)), NEEDLESS))
        self.assertEqual([0, 0], last(NEEDLESS))

    def test_a_clue_that_keeps_nothing_out(self):
        calls = (begins(2, singles(3)), one_of(0, [0]), one_of(1, [1, 2]), one_of(1, [1]))
        self.assertEqual([1, 1, 1], last(*calls, NEEDLESS))

    def test_each_by_itself(self):
        # Either of the two will do, so each is needless while the other is there.
        calls = (begins(2, singles(3)), one_of(0, [2]), one_of(0, [2]))
        self.assertEqual([2, 2, 0, 1], last(*calls, NEEDLESS))
        self.assertEqual([0, 0], last(*calls, drop(0), NEEDLESS))

    def test_each_kind(self):
        values = [[0, 1], [0, 2], [3, 1], [3, 2]]
        for one, other in (
            (reads([0], [[0, 1]]), one_of(0, [0])),
            (reads([0], [[0, 1]], 0), one_of(0, [1, 2, 3])),
            (first_alike(0, 1), reads([0, 1], [[0, 1, 0, 2], [0, 2, 0, 1], [3, 1, 3, 2], [3, 2, 3, 1]])),
            (last_alike(0, 1, 0), last_alike(1, 0, 0)),
            (stands([0], [3]), one_of(0, [2, 3])),
            (stands([0], [3], 0), one_of(0, [0, 1])),
        ):
            with self.subTest(one=one, other=other):
                self.assertEqual([0, 0], last(begins(2, values), one, NEEDLESS))
                self.assertEqual([2, 2, 0, 1], last(begins(2, values), one, other, NEEDLESS))
                self.assertEqual([1, 1, 0], last(begins(2, values), one_of(1, [0, 1, 2, 3]), one, NEEDLESS))

    def test_no_way_with_the_clue_or_without(self):
        self.assertEqual([2, 2, 0, 1], last(begins(1, singles(2)), one_of(0, []), one_of(0, []), NEEDLESS))
        self.assertEqual([1, 1, 1], last(begins(1, singles(2)), one_of(0, []), one_of(0, [1]), NEEDLESS))
        self.assertEqual([1, 1, 0], last(begins(2, singles(1)), one_of(0, [0]), NEEDLESS))

    def test_it_changes_nothing(self):
        calls = (begins(2, singles(3)), one_of(0, [2]), one_of(0, [2, 1]), NEEDLESS, WAYS, NEEDLESS)
        self.assertEqual([[1, 1, 1], [2, 2, 2, 0], [1, 1, 1]], run(*calls)[-3:])


class Clash(unittest.TestCase):
    def test_two_that_clash(self):
        calls = (begins(2, singles(3)), one_of(1, [0]), one_of(0, [1]), first_alike(0, 1, 0), one_of(0, [2]))
        self.assertEqual([2, 2, 1, 3], last(*calls, CLASH))

    def test_earlier_ones_are_left_out_first(self):
        calls = (begins(1, singles(3)), one_of(0, [0]), one_of(0, [1]), one_of(0, [2]))
        self.assertEqual([2, 2, 1, 2], last(*calls, CLASH))

    def test_one_that_never_holds(self):
        calls = (begins(1, singles(3)), one_of(0, [0]), one_of(0, []), one_of(0, [1]))
        self.assertEqual([1, 1, 1], last(*calls, CLASH))
        self.assertEqual([1, 1, 3], last(*calls, one_of(0, []), CLASH))

    def test_three_of_which_any_two_hold_together(self):
        calls = (begins(1, singles(3)), one_of(0, [0, 1]), one_of(0, [1, 2]), one_of(0, [0, 2]))
        self.assertEqual([3, 3, 0, 1, 2], last(*calls, CLASH))

    def test_more_signs_than_values_clash_without_clues(self):
        self.assertEqual([[0, 0], [0], [0, 0]], run(begins(2, singles(1)), CLASH, one_of(0, [0]), CLASH)[1:])

    def test_two_signs_that_need_the_same_value(self):
        calls = (begins(3, singles(3)), one_of(2, [0, 1]), one_of(0, [1]), reads([1], [[1]]))
        self.assertEqual([2, 2, 1, 2], last(*calls, CLASH))

    def test_signs_that_do_not_bear_on_it(self):
        values = [[k % 5, k % 3] for k in range(10)]
        pairs = [(one, other) for one in range(4) for other in range(one)]
        loose = [first_alike(one, other, 0) for one, other in pairs] * 3
        tight = [last_alike(one + 4, other + 4, 0) for one, other in pairs]
        self.assertEqual([6, 6, 18, 19, 20, 21, 22, 23], last(begins(8, values), *loose, *tight, CLASH))

    def test_it_changes_nothing(self):
        calls = (begins(1, singles(2)), one_of(0, [0]), one_of(0, [1]), one_of(0, [0]), CLASH, WAYS, CLASH, drop(1))
        self.assertEqual([[2, 2, 1, 2], [0], [2, 2, 1, 2], [0], [1, 1, 0]], run(*calls, WAYS)[-5:])

    def test_there_is_a_way(self):
        self.assertEqual([[-6], [1, 1, 0]], run(begins(1, singles(2)), one_of(0, [0]), CLASH, WAYS)[-2:])
        self.assertEqual([-6], last(begins(1, singles(1)), CLASH))
        self.assertEqual([-6], last(CLASH))


if __name__ == "__main__":
    unittest.main()
