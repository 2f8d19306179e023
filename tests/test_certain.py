"""Promises 6 to 8: certain, possible and readings."""

import unittest

from helper import CERTAIN, WAYS, begins, last, one_of, possible, readings, reads, run, singles

# Three signs, values by number: 0 a, 1 b, 2 ab; two ways are left: (0, 1, 2) and (0, 2, 1).
TWO_WAYS = (begins(3, [[0], [1], [0, 1]]), one_of(0, [0]))
NO_WAY = (begins(2, singles(3)), one_of(0, []))


class Certain(unittest.TestCase):
    def test_what_all_ways_share(self):
        self.assertEqual([0, 3, 0, 3, 3], last(*TWO_WAYS, CERTAIN))

    def test_one_way(self):
        self.assertEqual([0, 3, 0, 2, 1], last(*TWO_WAYS, one_of(2, [1]), CERTAIN))

    def test_nothing_is_certain(self):
        self.assertEqual([0, 2, 10, 10], last(begins(2, singles(10)), CERTAIN))

    def test_one_sign_and_one_value(self):
        self.assertEqual([0, 1, 0], last(begins(1, singles(1)), CERTAIN))

    def test_no_way(self):
        self.assertEqual([[-3], [0]], run(*NO_WAY, CERTAIN, WAYS)[-2:])
        self.assertEqual([-3], last(begins(3, singles(2)), CERTAIN))


class Possible(unittest.TestCase):
    def test_the_values_in_some_way_rising(self):
        self.assertEqual([[1, 1, 0], [2, 2, 1, 2]], run(*TWO_WAYS, possible(0), possible(1))[-2:])
        self.assertEqual([3, 3, 0, 4, 9], last(begins(2, singles(10)), one_of(1, [9, 0, 4]), possible(1)))

    def test_all_ten(self):
        self.assertEqual([10, 10, 0, 1, 2, 3, 4, 5, 6, 7, 8, 9], last(begins(1, singles(10)), possible(0)))

    def test_no_way_has_no_value(self):
        self.assertEqual([0, 0], last(*NO_WAY, possible(1)))

    def test_no_such_sign(self):
        self.assertEqual([[-1], [-1]], run(*TWO_WAYS, possible(3), possible(4294967295))[-2:])
        self.assertEqual([-1], last(*NO_WAY, possible(2)))
        self.assertEqual([-1], last(possible(0)))


class Readings(unittest.TestCase):
    def test_shorter_ones_first_then_by_letters(self):
        # By (0, 1, 2) the two texts read b and ab, by (0, 2, 1) ab and b.
        self.assertEqual([2, 1, 1, 2, 0, 1], last(*TWO_WAYS, readings([1])))
        self.assertEqual([2, 1, 1, 2, 0, 1], last(*TWO_WAYS, readings([2])))

    def test_of_as_long_ones_by_the_first_letter_that_differs(self):
        values = [[2, 0], [1, 25], [1, 3], [4]]
        self.assertEqual([4, 1, 4, 2, 1, 3, 2, 1, 25, 2, 2, 0], last(begins(1, values), readings([0])))

    def test_each_once(self):
        # a followed by ba, ab by a: both read aba.
        calls = (begins(2, [[0], [1, 0], [0, 1]]), reads([0, 1], [[0, 1, 0]]))
        self.assertEqual([[2, 2, 0, 1], [1, 3, 0, 1, 0]], run(*calls, WAYS, readings([0, 1]))[-2:])

    def test_a_text_of_eight_signs_with_some_twice(self):
        self.assertEqual([2, 2, 0, 0, 2, 1, 1], last(begins(1, singles(2)), readings([0, 0])))
        thrice = (begins(1, [[1, 2, 3]]), readings([0] * 8))
        self.assertEqual([1, 24] + [1, 2, 3] * 8, last(*thrice))

    def test_no_way_has_no_reading(self):
        self.assertEqual([0], last(*NO_WAY, readings([0, 1])))

    def test_no_text_of_the_script(self):
        for text in ([], [3], [0, 1, 3], [4294967295], [0] * 9, [0] * 60):
            with self.subTest(text=text):
                self.assertEqual([-1], last(*TWO_WAYS, readings(text)))
                self.assertEqual([-1], last(readings(text)))
        self.assertEqual([-1], last(*NO_WAY, readings([2])))


if __name__ == "__main__":
    unittest.main()
