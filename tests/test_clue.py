"""Promise 2: clue, and when a clue of each kind holds."""

import unittest

from helper import (WAYS, begins, every_way, first_alike, last, last_alike, one_of, reads, run, singles, stands)

# Values by number: 0 a, 1 b, 2 ab, 3 ba, 4 aba (a is letter 0, b letter 1).
FIVE = [[0], [1], [0, 1], [1, 0], [0, 1, 0]]


def ways_of(signs, values, *clues):
    return every_way(begins(signs, values), *clues)


class ReadsAs(unittest.TestCase):
    def test_yes_keeps_all_ways_that_read_so(self):
        self.assertEqual([(0, 3), (2, 0)], ways_of(2, FIVE, reads([0, 1], [[0, 1, 0]])))

    def test_no_keeps_all_others(self):
        others = [given for given in ways_of(2, FIVE) if given not in ((0, 3), (2, 0))]
        self.assertEqual(18, len(others))
        self.assertEqual(others, ways_of(2, FIVE, reads([0, 1], [[0, 1, 0]], 0)))

    def test_any_of_the_words_will_do(self):
        self.assertEqual([(1, 0), (2, 1), (4, 1)], ways_of(2, FIVE, reads([0, 1], [[1, 0], [0, 1, 1], [0, 1, 0, 1]]),
                                                           one_of(0, [1, 2, 4])))
        words = [[letter, 9 - letter] for letter in range(10)]
        self.assertEqual([(letter, 9 - letter) for letter in range(10)], ways_of(2, singles(10), reads([0, 1], words)))

    def test_a_word_is_the_whole_reading(self):
        self.assertEqual([(0,)], ways_of(1, FIVE, reads([0], [[0]])))
        self.assertEqual([(2,)], ways_of(1, FIVE, reads([0], [[0, 1]])))

    def test_no_text_reads_as_the_empty_word(self):
        self.assertEqual([], ways_of(1, FIVE, reads([0], [[]])))
        self.assertEqual(5, len(ways_of(1, FIVE, reads([0], [[]], 0))))

    def test_a_text_may_have_a_sign_twice(self):
        self.assertEqual([(0, 1)], ways_of(2, FIVE, reads([0, 0, 1], [[0, 0, 1]])))
        self.assertEqual([(3, 0)], ways_of(2, FIVE, reads([0, 1, 0], [[1, 0, 0, 1, 0]])))

    def test_two_signs_never_read_as_the_same_value(self):
        self.assertEqual([], ways_of(2, singles(3), reads([0, 1], [[2, 2]])))

    def test_a_text_of_eight_signs_and_a_word_of_sixteen_letters(self):
        pairs = [[letter, letter] for letter in range(10)]
        word = [letter for letter in (9, 8, 7, 6, 5, 4, 3, 0) for _ in range(2)]
        self.assertEqual([(9, 8, 7, 6, 5, 4, 3, 0)], ways_of(8, pairs, reads(range(8), [word])))

    def test_a_longer_reading_is_none_of_the_words(self):
        thrice = [[letter] * 3 for letter in range(8)]
        self.assertEqual([], ways_of(8, thrice, reads(range(8), [[0] * 16])))


class Alike(unittest.TestCase):
    def test_first_letters(self):
        values = [[0, 5], [1, 5], [0, 6]]
        self.assertEqual([(0, 2), (2, 0)], ways_of(2, values, first_alike(0, 1)))
        self.assertEqual([(0, 1), (1, 0), (1, 2), (2, 1)], ways_of(2, values, first_alike(0, 1, 0)))

    def test_last_letters(self):
        values = [[0, 5], [1, 5], [0, 6]]
        self.assertEqual([(0, 1), (1, 0)], ways_of(2, values, last_alike(1, 0)))
        self.assertEqual([(0, 2), (1, 2), (2, 0), (2, 1)], ways_of(2, values, last_alike(1, 0, 0)))

    def test_values_of_several_lengths(self):
        values = [[7], [7, 1, 2], [3, 7], [2]]
        self.assertEqual([(0, 1), (1, 0)], ways_of(2, values, first_alike(0, 1)))
        self.assertEqual([(0, 2), (1, 3), (2, 0), (3, 1)], ways_of(2, values, last_alike(0, 1)))

    def test_the_two_signs_may_be_one(self):
        for alike in (first_alike, last_alike):
            self.assertEqual(3, len(ways_of(1, singles(3), alike(0, 0))))
            self.assertEqual([], ways_of(1, singles(3), alike(0, 0, 0)))


class OneOf(unittest.TestCase):
    def test_the_sign_has_one_of_the_values(self):
        self.assertEqual([(0, 2), (1, 2)], ways_of(2, singles(3), one_of(1, [2])))
        self.assertEqual([(1,), (3,)], ways_of(1, singles(5), one_of(0, [3, 1])))

    def test_no_value_at_all(self):
        self.assertEqual([[0], [0], [0]], run(begins(1, singles(3)), one_of(0, []), WAYS))

    def test_ten_values(self):
        self.assertEqual(10, len(ways_of(1, singles(10), one_of(0, range(10)))))
        self.assertEqual([(4,)], ways_of(1, singles(10), one_of(0, [4] * 10)))


class StandsIn(unittest.TestCase):
    def test_within_one_value(self):
        self.assertEqual([(3,), (4,)], ways_of(1, FIVE, stands([0], [1, 0])))
        self.assertEqual([(0,), (1,), (2,)], ways_of(1, FIVE, stands([0], [1, 0], 0)))

    def test_over_two_values(self):
        values = [[0, 1], [2, 3], [1], [2]]
        self.assertEqual([(0, 1), (0, 3), (2, 1), (2, 3)], ways_of(2, values, stands([0, 1], [1, 2])))
        self.assertEqual([(0, 1)], ways_of(2, values, stands([0, 1], [0, 1, 2, 3])))

    def test_over_three_values_the_middle_one_whole(self):
        values = [[9, 0], [1], [2, 9], [1, 9]]
        self.assertEqual([(0, 1, 2)], ways_of(3, values, stands([0, 1, 2], [0, 1, 2])))
        self.assertEqual(23, len(ways_of(3, values, stands([0, 1, 2], [0, 1, 2], 0))))

    def test_letters_with_others_between_do_not_stand(self):
        self.assertEqual([], ways_of(1, [[0, 1, 2]], stands([0], [0, 2])))
        self.assertEqual([(0,)], ways_of(1, [[0, 1, 2]], stands([0], [0, 2], 0)))

    def test_the_whole_reading(self):
        self.assertEqual([(0, 1)], ways_of(2, singles(4), stands([0, 1], [0, 1])))
        self.assertEqual([], ways_of(2, singles(4), stands([0, 1], [0, 1, 2])))

    def test_a_row_that_begins_anew_within_itself(self):
        self.assertEqual([(0, 1)], ways_of(2, [[0, 0], [0, 1]], stands([0, 1], [0, 0, 0, 1])))
        self.assertEqual([(0, 1)], ways_of(2, [[0, 0], [0, 1]], stands([0, 1], [0, 0, 1])))
        self.assertEqual([(1, 0)], ways_of(2, [[0, 0], [0, 1]], stands([0, 1], [0, 0, 1], 0)))

    def test_the_order_of_the_text_counts_not_that_of_the_signs(self):
        self.assertEqual([(1, 0)], ways_of(2, singles(2), stands([1, 0], [0, 1])))

    def test_a_sign_twice_in_the_text(self):
        self.assertEqual([(2,)], ways_of(1, singles(3), stands([0, 0], [2, 2])))
        self.assertEqual([], ways_of(1, singles(3), stands([0], [2, 2])))

    def test_a_row_of_sixteen_letters_in_a_text_of_eight_signs(self):
        pairs = [[letter, letter] for letter in range(8)]
        word = [letter for letter in range(7, -1, -1) for _ in range(2)]
        self.assertEqual([(7, 6, 5, 4, 3, 2, 1, 0)], ways_of(8, pairs, stands(range(8), word)))

    def test_a_row_that_begins_and_ends_within_values(self):
        thrice = [[letter] * 3 for letter in range(8)]
        letters = [letter for letter in range(8) for _ in range(3)][5:21]
        self.assertEqual([(0, 1, 2, 3, 4, 5, 6, 7), (0, 7, 1, 2, 3, 4, 5, 6), (1, 2, 3, 4, 5, 6, 0, 7),
                          (1, 2, 3, 4, 5, 6, 7, 0), (7, 0, 1, 2, 3, 4, 5, 6), (7, 1, 2, 3, 4, 5, 6, 0)],
                         ways_of(8, thrice, stands(range(8), letters)))


class Several(unittest.TestCase):
    def test_all_clues_must_hold(self):
        values = [[0, 1], [0, 2], [3, 1], [3, 2]]
        clues = (first_alike(0, 1), last_alike(1, 2), one_of(0, [0, 2]))
        self.assertEqual([(0, 1, 3), (2, 3, 1)], ways_of(3, values, *clues))

    def test_the_order_of_the_ways(self):
        self.assertEqual([(0, 1), (0, 2), (1, 0), (1, 2), (2, 0), (2, 1)], ways_of(2, singles(3)))
        # The clue leaves the last sign the fewest values; the first sign still leads the order.
        self.assertEqual([(0, 1), (0, 2), (1, 2), (2, 1), (3, 1), (3, 2)], ways_of(2, singles(4), one_of(1, [2, 1])))


class Numbers(unittest.TestCase):
    def test_clues_are_numbered_from_nought(self):
        calls = [begins(2, singles(3)), one_of(0, [1]), first_alike(0, 1, 0), stands([0], [9]), reads([1], [[0]])]
        self.assertEqual([[0], [0], [1], [2], [3]], run(*calls))

    def test_the_24th_clue_and_the_25th(self):
        calls = [begins(1, singles(2))] + [one_of(0, [0, 1])] * 24 + [one_of(0, [0]), WAYS]
        self.assertEqual([[23], [-5], [2, 1, 0]], run(*calls)[-3:])

    def test_a_wrong_clue_is_refused_as_wrong_though_there_are_24(self):
        calls = [begins(1, singles(2))] + [one_of(0, [0, 1])] * 24
        self.assertEqual([-1], last(*calls, one_of(1, [0])))
        self.assertEqual([-1], last(*calls, stands([0], [])))


class Wrong(unittest.TestCase):
    wrong = (
        reads([2], [[0]]),
        reads([0, 1, 4294967295], [[0]]),
        reads([], [[0]]),
        reads([0] * 9, [[0]]),
        reads([0], []),
        reads([0], [[0]] * 11),
        reads([0], [[0] * 17]),
        reads([0], [[0], [0] * 60], 0),
        reads([0], [[26]]),
        reads([0], [[0], [], [0, 26]], 0),
        reads([2] * 9, [[26] * 17] * 11),
        first_alike(2, 0),
        first_alike(0, 2, 0),
        first_alike(2, 2),
        last_alike(2, 1),
        last_alike(1, 4294967295, 0),
        one_of(2, [0]),
        one_of(2, []),
        one_of(0, [3]),
        one_of(0, [0, 1, 2, 4294967295]),
        one_of(0, [0] * 11),
        stands([2], [0]),
        stands([], [0]),
        stands([1] * 9, [0], 0),
        stands([0], []),
        stands([0], [], 0),
        stands([0], [0] * 17),
        stands([0], [0, 26], 0),
        stands([0], [4294967295]),
    )

    def test_what_is_no_clue_is_refused_and_changes_nothing(self):
        for clue in self.wrong:
            with self.subTest(clue=clue):
                answered = run(begins(2, singles(3)), one_of(0, [1]), clue, WAYS, one_of(1, [0]), WAYS)
                self.assertEqual([[-1], [2, 2, 1, 0], [1], [1, 2, 1, 0]], answered[2:])

    def test_edges_are_clues(self):
        for clue in (
            reads([0] * 8, [[25] * 16] * 10),
            reads([1], [[]], 0),
            stands([0, 1] * 4, [25] * 16, 0),
            stands([1], [0]),
            first_alike(1, 1),
            last_alike(0, 0, 0),
            one_of(1, []),
            one_of(0, [2] * 10),
        ):
            with self.subTest(clue=clue):
                self.assertEqual([0], last(begins(2, singles(3)), clue))

    def test_ahead_of_any_begins_there_is_no_clue(self):
        for clue in (reads([0], [[0]]), first_alike(0, 0), last_alike(0, 0), one_of(0, []), stands([0], [0])):
            with self.subTest(clue=clue):
                self.assertEqual([[-1], [1, 0]], run(clue, WAYS))


if __name__ == "__main__":
    unittest.main()
