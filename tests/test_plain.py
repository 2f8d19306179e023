"""Promises 1 to 12 over many lines of calls: the same answers as the plain way of trying all there is."""

import random
import unittest

from helper import (ASK, CERTAIN, CLASH, NEEDLESS, SETTLE, WAYS, begins, drop, first_alike, last_alike, one_of,
                    plain_run, possible, readings, reads, run, stands, way)


def some_values(source, count, letters):
    values = []
    while len(values) < count:
        value = [source.randrange(letters) for _ in range(source.randint(1, 3))]
        if value not in values or source.random() < 0.002:
            values.append(value)
    return values


class Line:
    """A line of calls in the making: now and then wrong, mostly about a script with a way that most clues hold of."""

    def __init__(self, source, most_signs, most_values):
        self.source = source
        self.most_signs = most_signs
        self.most_values = most_values
        self.signs = 0
        self.values = []
        self.way = []
        self.letters = 2

    def begins(self):
        source = self.source
        signs = source.randint(1, self.most_signs)
        count = source.randint(min(signs, self.most_values) if source.random() < 0.9 else 1, self.most_values)
        self.letters = source.choice((2, 3, 3, 4, 26))
        values = some_values(source, count, self.letters)
        if source.random() < 0.05:
            return begins(source.choice((0, 9, signs)), source.choice((values + [[]], values + [[26]], [], values)))
        self.signs, self.values = signs, values
        self.way = [source.randrange(count) for _ in range(signs)]
        if signs <= count:
            self.way = source.sample(range(count), signs)
        return begins(signs, values)

    def sign(self):
        if self.source.random() < 0.02:
            return self.signs + self.source.choice((0, 1, 4294967295 - self.signs))
        return self.source.randrange(max(self.signs, 1))

    def text(self):
        size = self.source.randint(1, 8) if self.source.random() < 0.98 else self.source.choice((0, 9, 60))
        return [self.sign() for _ in range(size)]

    def read(self, text, given):
        letters = []
        for sign in text:
            if sign < len(given):
                letters += self.values[given[sign]]
        return letters

    def other_way(self):
        return [self.source.randrange(len(self.values)) for _ in range(self.signs)]

    def yes(self, held):
        return int(held) if self.source.random() < 0.85 else self.source.randrange(2)

    def clue(self):
        source = self.source
        kind = source.randrange(5)
        if kind == 0:
            text = self.text()
            words = [self.read(text, self.other_way())[:17] for _ in range(source.choice((0, 1, 1, 2, 3, 9, 10, 10, 11)))]
            if source.random() < 0.7:
                words = words[1:] + [self.read(text, self.way)]
            return reads(text, words, self.yes(self.read(text, self.way) in words))
        if kind in (1, 2):
            one, other = self.sign(), self.sign()
            place = 0 if kind == 1 else -1
            pair = [self.values[self.way[sign]][place] for sign in (one, other) if sign < self.signs]
            return (first_alike, last_alike)[kind - 1](one, other, self.yes(len(set(pair)) == 1))
        if kind == 3:
            sign = self.sign()
            numbers = [source.randrange(len(self.values) + (source.random() < 0.02) or 1)
                       for _ in range(source.choice((0, 2, 4, 6, 10, 10, 11)))]
            if sign < self.signs and source.random() < 0.8:
                numbers = numbers[1:] + [self.way[sign]]
            return one_of(sign, numbers)
        text = self.text()
        whole = self.read(text, self.way if source.random() < 0.7 else self.other_way()) + [0]
        start = source.randrange(len(whole))
        letters = whole[start:start + source.choice((1, 1, 2, 2, 3, 4, 5, 8, 16, 17))]
        found = self.read(text, self.way)
        held = any(found[k:k + len(letters)] == letters for k in range(len(found)))
        return stands(text, letters if source.random() < 0.99 else [], self.yes(held))

    def ask(self):
        source = self.source
        k = source.choice((0, 1, 2, 5, 50, 299, 300, 4294967295))
        return source.choice((WAYS, way(k), CERTAIN, possible(self.sign()), readings(self.text()), SETTLE, ASK,
                              NEEDLESS, CLASH))

    def calls(self, count):
        source = self.source
        made = [self.ask()] if source.random() < 0.2 else []
        made.append(self.begins())
        while len(made) < count:
            turn = source.random()
            if turn < 0.02 or not self.values:
                made.append(self.begins())
            elif turn < 0.5:
                made.append(self.clue())
            elif turn < 0.58:
                made.append(drop(source.choice((0, 0, 1, 2, 5, 24, 4294967295))))
            else:
                made.append(self.ask())
        return made


class AgainstThePlainWay(unittest.TestCase):
    def compare(self, seeds, most_signs, most_values, count):
        for seed in seeds:
            calls = Line(random.Random(seed), most_signs, most_values).calls(count)
            with self.subTest(seed=seed):
                self.assertEqual(plain_run(*calls), run(*calls))

    def test_small_scripts(self):
        self.compare(range(400), 4, 6, 40)

    def test_scripts_of_more_signs(self):
        self.compare(range(1000, 1060), 6, 6, 40)

    def test_scripts_of_more_values(self):
        self.compare(range(2000, 2060), 3, 10, 40)

    def test_eight_signs(self):
        self.compare(range(3000, 3004), 8, 8, 16)


if __name__ == "__main__":
    unittest.main()
