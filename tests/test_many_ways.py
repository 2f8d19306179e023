"""Promise 4: the refusal where there are more than 300 ways, and the one way where there are no signs."""

import unittest

from helper import (ASK, ASKING, CERTAIN, CLASH, NEEDLESS, SETTLE, WAYS, begins, drop, every_way, last, one_of,
                    possible, readings, reads, run, singles, way)


def left_out(count):
    """Clues that leave out so many of the 336 ways of 3 signs and 8 values."""
    words = [[1, 2, k] for k in range(3, 8)] + [[2, j, k] for j in range(3, 8) for k in range(3, 8) if j != k]
    words += [[3, j, k] for j in range(4, 8) for k in range(4, 8) if j != k]
    return [reads([0, 1, 2], words[start:min(start + 10, count)], 0) for start in range(0, count, 10)]


EIGHT = begins(3, singles(8))


class ManyWays(unittest.TestCase):
    def test_300_ways_are_told(self):
        calls = [EIGHT] + left_out(36)
        self.assertEqual([[300, 3, 0, 1, 2], [0, 3, 7, 6, 5], [-2], [0, 3, 8, 8, 8]],
                         run(*calls, WAYS, way(299), way(300), CERTAIN)[-4:])
        self.assertEqual(300, len(set(every_way(*calls))))

    def test_300_ways_answer_every_call_that_asks(self):
        answered = run(EIGHT, *left_out(36), *ASKING)[-len(ASKING):]
        self.assertEqual([-6], answered.pop())
        for numbers in answered:
            self.assertGreaterEqual(numbers[0], 0)

    def test_301_ways_are_too_many_for_every_call_that_asks(self):
        answered = run(EIGHT, *left_out(35), *ASKING)[-len(ASKING):]
        self.assertEqual([[-5]] * len(ASKING), answered)

    def test_many_more(self):
        answered = run(begins(8, singles(10)), *ASKING)[1:]
        self.assertEqual([[-5]] * len(ASKING), answered)

    def test_wrong_signs_and_texts_are_refused_as_wrong_first(self):
        answered = run(EIGHT, possible(3), readings([3]), readings([]), readings([0] * 9))[1:]
        self.assertEqual([[-1]] * 4, answered)

    def test_a_way_that_is_not_there_is_refused_as_too_many_first(self):
        self.assertEqual([-5], last(EIGHT, way(4294967295)))

    def test_changes_are_not_refused(self):
        self.assertEqual([[0], [0], [1], [0], [-2], [-5], [0]],
                         run(EIGHT, one_of(0, range(8)), one_of(0, range(8)), drop(1), drop(1), WAYS, EIGHT))

    def test_a_refusal_changes_nothing(self):
        calls = [EIGHT] + left_out(35) + list(ASKING)
        self.assertEqual([[4], [42, 3, 0, 1, 2]], run(*calls, one_of(0, [0]), WAYS)[-2:])

    def test_the_clues_of_more_ways_are_told_needless_or_not(self):
        # Without the clue there are 720 ways: only how many there are now must not be above 300.
        self.assertEqual([[72, 3, 0, 1, 2], [0, 0]], run(begins(3, singles(10)), one_of(0, [0]), WAYS, NEEDLESS)[-2:])


class NoSigns(unittest.TestCase):
    def test_one_way_of_none(self):
        self.assertEqual([[1, 0], [0, 0], [-2], [0, 0]], run(WAYS, way(0), way(1), CERTAIN))

    def test_the_other_calls(self):
        self.assertEqual([[-1], [-1], [-1], [0, 0], [-3], [0, 0], [-6]],
                         run(possible(0), readings([0]), readings([]), SETTLE, ASK, NEEDLESS, CLASH))


if __name__ == "__main__":
    unittest.main()
