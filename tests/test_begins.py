"""Promise 1: begins."""

import unittest

from helper import CERTAIN, NEEDLESS, WAYS, begins, last, one_of, possible, run, singles

# A script that is kept when the begins behind it is refused: one way of 2 signs is left by its clue.
BEFORE = (begins(2, [[3], [4]]), one_of(0, [1]))


class Begins(unittest.TestCase):
    def test_a_script_answers_nought(self):
        self.assertEqual([[0], [2, 2, 0, 1]], run(begins(2, [[1, 2], [3]]), WAYS))

    def test_edges_are_scripts(self):
        for signs, values in (
            (1, [[0]]),
            (1, [[25]]),
            (1, [[0, 25, 0]]),
            (8, singles(10)),
            (8, singles(1)),
            (1, [[1], [1, 1], [1, 1, 1], [2], [1, 2], [2, 1]]),
        ):
            with self.subTest(signs=signs, values=values):
                self.assertEqual([0], last(begins(signs, values)))

    def test_what_is_no_script_is_refused_and_changes_nothing(self):
        for signs, values in (
            (0, [[0]]),
            (9, singles(10)),
            (4294967295, singles(10)),
            (1, []),
            (1, singles(11)),
            (1, [[0], []]),
            (1, [[]]),
            (1, [[0], [1, 2, 3, 4]]),
            (1, [[26]]),
            (1, [[0], [0, 0, 26]]),
            (1, [[4294967295]]),
            (2, [[7], [7]]),
            (2, [[7, 8], [9], [7, 8]]),
            (0, [[99], [99]]),
            (60, [[k % 26] * 60 for k in range(60)]),
        ):
            with self.subTest(signs=signs, values=values):
                answered = run(*BEFORE, begins(signs, values), WAYS, possible(1), possible(2), NEEDLESS)
                self.assertEqual([[-1], [1, 2, 1, 0], [1, 1, 0], [-1], [0, 0]], answered[2:])

    def test_a_refused_first_begins_leaves_no_signs(self):
        self.assertEqual([[-1], [1, 0], [0, 0]], run(begins(9, singles(10)), WAYS, CERTAIN))

    def test_a_new_script_has_no_clues(self):
        calls = BEFORE + (begins(1, singles(3)), WAYS, NEEDLESS, one_of(0, [0]))
        self.assertEqual([[0], [3, 1, 0], [0, 0], [0]], run(*calls)[2:])

    def test_a_new_script_has_its_own_signs_and_values(self):
        self.assertEqual([10, 10, 0, 1, 2, 3, 4, 5, 6, 7, 8, 9], last(*BEFORE, begins(1, singles(10)), possible(0)))
        self.assertEqual([-1], last(begins(2, singles(2)), begins(1, singles(2)), possible(1)))


if __name__ == "__main__":
    unittest.main()
