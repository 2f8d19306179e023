"""Promise 5: ways and way."""

import unittest

from helper import WAYS, begins, drop, first_alike, last, one_of, reads, run, singles, way


class Ways(unittest.TestCase):
    def test_how_many_and_the_first(self):
        self.assertEqual([6, 2, 0, 1], last(begins(2, singles(3)), WAYS))
        self.assertEqual([3, 2, 0, 2], last(begins(2, singles(4)), one_of(1, [2]), WAYS))

    def test_no_way_has_no_first(self):
        self.assertEqual([0], last(begins(1, singles(2)), one_of(0, []), WAYS))

    def test_more_signs_than_values(self):
        self.assertEqual([[0], [-2]], run(begins(2, singles(1)), WAYS, way(0))[1:])
        self.assertEqual([0], last(begins(8, singles(7)), WAYS))

    def test_as_many_signs_as_values(self):
        self.assertEqual([24, 4, 0, 1, 2, 3], last(begins(4, singles(4)), WAYS))

    def test_they_follow_each_change(self):
        calls = (begins(2, singles(3)), WAYS, one_of(0, [2]), WAYS, one_of(1, [1]), WAYS, drop(0), WAYS,
                 begins(1, singles(1)), WAYS)
        self.assertEqual([[6, 2, 0, 1], [2, 2, 2, 0], [1, 2, 2, 1], [2, 2, 0, 1], [1, 1, 0]], run(*calls)[1::2])

    def test_eight_signs_with_one_way(self):
        calls = [begins(8, singles(10))] + [one_of(sign, [9 - sign]) for sign in range(8)]
        self.assertEqual([1, 8, 9, 8, 7, 6, 5, 4, 3, 2], last(*calls, WAYS))

    def test_seven_signs_that_must_begin_with_six_letters(self):
        values = [[k % 6, k] for k in range(10)]
        calls = [begins(8, values)] + [first_alike(one, other, 0) for one in range(7) for other in range(one)]
        self.assertEqual([0], last(*calls, WAYS))


class Way(unittest.TestCase):
    def test_each_in_order(self):
        calls = (begins(2, singles(3)), reads([0, 1], [[0, 1], [2, 0], [1, 2]]))
        self.assertEqual([[0, 2, 0, 1], [0, 2, 1, 2], [0, 2, 2, 0]], run(*calls, way(0), way(1), way(2))[2:])

    def test_the_last_and_the_one_behind_it(self):
        self.assertEqual([[0, 2, 2, 1], [-2], [-2]], run(begins(2, singles(3)), way(5), way(6), way(4294967295))[1:])

    def test_no_way(self):
        self.assertEqual([-2], last(begins(1, singles(2)), one_of(0, []), way(0)))


if __name__ == "__main__":
    unittest.main()
