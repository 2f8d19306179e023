"""Promise 3: drop."""

import unittest

from helper import NEEDLESS, WAYS, begins, drop, last, one_of, run, singles

THREE = (begins(2, singles(4)), one_of(0, [0, 1]), one_of(1, [2]), one_of(0, [1, 3]))


class Drop(unittest.TestCase):
    def test_it_is_gone(self):
        self.assertEqual([[0], [2, 2, 0, 2]], run(*THREE, drop(2), WAYS)[-2:])
        self.assertEqual([[0], [2, 2, 1, 2]], run(*THREE, drop(0), WAYS)[-2:])

    def test_those_behind_move_up(self):
        # Without the first clue, sign 1's is the first: without that too, sign 0's alone is left.
        self.assertEqual([6, 2, 1, 0], last(*THREE, drop(0), drop(0), WAYS))
        self.assertEqual([3, 2, 1, 0], last(*THREE, drop(1), WAYS))

    def test_the_next_clue_is_the_last(self):
        self.assertEqual([[0], [2], [1, 2, 1, 3]], run(*THREE, drop(1), one_of(1, [3]), WAYS)[-3:])

    def test_there_is_room_again_behind_24(self):
        calls = [begins(1, singles(2))] + [one_of(0, [0, 1])] * 24 + [one_of(0, [1]), drop(23), one_of(0, [1])]
        self.assertEqual([[-5], [0], [23]], run(*calls)[-3:])

    def test_no_such_clue(self):
        for k in (3, 4, 4294967295):
            with self.subTest(k=k):
                self.assertEqual([[-2], [1, 2, 1, 2], [0, 0], [3]],
                                 run(*THREE, drop(k), WAYS, NEEDLESS, one_of(0, []))[-4:])

    def test_no_clue_at_all(self):
        self.assertEqual([[-2], [1, 0]], run(drop(0), WAYS))
        self.assertEqual([-2], last(begins(1, singles(1)), drop(0)))
        self.assertEqual([[0], [-2]], run(begins(1, singles(1)), one_of(0, [0]), drop(0), drop(0))[-2:])


if __name__ == "__main__":
    unittest.main()
