"""The interface: the list that is handed in and the list that is given back."""

import contextlib
import io
import unittest

from helper import ASKING, CERTAIN, WAYS, begins, drop, one_of, possible, readings, reads, singles, stands, way, written
from signclues.desk import answers

LINE = written((WAYS, begins(2, [[0, 1], [2]]), reads([0, 1], [[0, 1, 2], []]), possible(0), readings([1, 0]),
                CERTAIN, begins(9, []), stands([1], [2], 0), way(7), drop(1)) + ASKING)


class Watched(list):
    """A list that tells of every try to change it."""

    def refuse(self, *given):
        raise AssertionError("the list was changed")

    append = extend = insert = pop = remove = clear = sort = reverse = refuse
    __setitem__ = __delitem__ = __iadd__ = __imul__ = refuse


class GivenBack(unittest.TestCase):
    def test_each_answer_stands_behind_its_count(self):
        calls = written([begins(2, [[0], [1, 2]]), WAYS, one_of(5, []), readings([0, 1])])
        self.assertEqual([1, 0, 4, 2, 2, 0, 1, 1, -1, 9, 2, 3, 0, 1, 2, 3, 1, 2, 0], answers(calls))

    def test_counts_lead_through_the_whole_list(self):
        given = answers(LINE)
        place = 0
        for _ in range(10 + len(ASKING)):
            self.assertGreaterEqual(given[place], 1)
            if given[place + 1] < 0:
                self.assertEqual(1, given[place])
            place += 1 + given[place]
        self.assertEqual(len(given), place)

    def test_whole_numbers_in_a_list(self):
        given = answers(LINE)
        self.assertIs(list, type(given))
        self.assertEqual({int}, set(type(number) for number in given))

    def test_the_example_of_the_readme(self):
        calls = [0, 7, 0, 2, 2, 1, 7, 1, 8, 0, 5, 1, 3, 0, 1, 1, 0, 1, 3]
        self.assertEqual([1, 0, 1, 0, 4, 1, 2, 1, 0], answers(calls))

    def test_one_call(self):
        self.assertEqual([2, 1, 0], answers(written([WAYS])))

    def test_sixty_calls(self):
        calls = [begins(1, singles(10))] + [one_of(0, range(10)), WAYS] * 24 + [possible(0)] * 11
        given = answers(written(calls))
        self.assertEqual([12, 10, 10, 0, 1, 2, 3, 4, 5, 6, 7, 8, 9] * 11, given[-143:])
        self.assertEqual([1, 23, 3, 10, 1, 0], given[-149:-143])


class HandedIn(unittest.TestCase):
    def test_it_is_the_same_afterwards(self):
        calls = list(LINE)
        answers(calls)
        self.assertEqual(LINE, calls)

    def test_it_is_not_changed_for_a_while_either(self):
        self.assertEqual(answers(LINE), answers(Watched(LINE)))

    def test_nothing_is_kept(self):
        once = answers(LINE)
        answers(written([begins(3, singles(5)), one_of(0, [4])]))
        self.assertEqual(once, answers(LINE))
        self.assertEqual([2, 1, 0], answers(written([WAYS])))

    def test_what_is_given_back_is_new(self):
        once = answers(LINE)
        kept = list(once)
        once.clear()
        self.assertEqual(kept, answers(LINE))

    def test_nothing_is_printed(self):
        shown = io.StringIO()
        with contextlib.redirect_stdout(shown), contextlib.redirect_stderr(shown):
            answers(LINE)
        self.assertEqual("", shown.getvalue())


if __name__ == "__main__":
    unittest.main()
