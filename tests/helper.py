"""Writes calls and reads answers for the tests, and answers calls the plain way, by trying every way there is."""

from itertools import combinations, permutations

from signclues.desk import answers

PLACES = ("begins", "clue", "drop", "ways", "way", "certain", "possible", "readings", "settle", "ask",
          "needless", "clash")


def row(members):
    return [len(members)] + list(members)


def rows(many):
    written = [len(many)]
    for members in many:
        written += row(members)
    return written


def begins(signs, values):
    return [0, signs] + rows(values)


def reads(text, words, yes=1):
    return [1, 0] + row(text) + rows(words) + [yes]


def first_alike(one, other, yes=1):
    return [1, 1, one, other, yes]


def last_alike(one, other, yes=1):
    return [1, 2, one, other, yes]


def one_of(sign, numbers):
    return [1, 3, sign] + row(numbers)


def stands(text, letters, yes=1):
    return [1, 4] + row(text) + row(letters) + [yes]


def drop(k):
    return [2, k]


WAYS = [3]


def way(k):
    return [4, k]


CERTAIN = [5]


def possible(sign):
    return [6, sign]


def readings(text):
    return [7] + row(text)


SETTLE = [8]
ASK = [9]
NEEDLESS = [10]
CLASH = [11]

# One of each call that asks about the ways, with what is right for a script of one sign or more.
ASKING = (WAYS, way(0), CERTAIN, possible(0), readings([0]), SETTLE, ASK, NEEDLESS, CLASH)


def written(calls):
    """The calls as the one list that is handed in."""
    flat = []
    for numbers in calls:
        flat += [0] + row(numbers)
    return flat


def split(flat):
    """The answers of a list that was given back, each a list of its own."""
    found = []
    place = 0
    while place < len(flat):
        end = place + 1 + flat[place]
        if end > len(flat):
            raise AssertionError("an answer has fewer numbers than told")
        found.append(flat[place + 1:end])
        place = end
    return found


def run(*calls):
    """The answer to each call."""
    return split(answers(written(calls)))


def last(*calls):
    """The answer to the last call."""
    return run(*calls)[-1]


def every_way(*calls):
    """All ways, asked for one by one behind the calls."""
    count = last(*calls, WAYS)[0]
    found = []
    for start in range(0, count, 20):
        asked = run(*calls, *[way(k) for k in range(start, min(start + 20, count))])[len(calls):]
        found += [tuple(answered[2:]) for answered in asked]
    return found


def singles(count):
    """So many values of one letter each."""
    return [[letter] for letter in range(count)]


class PlainDesk:
    """The document's words carried out one by one, without any shortening."""

    def __init__(self):
        self.signs = 0
        self.values = []
        self.clues = []

    def read(self, text, given):
        return [letter for sign in text for letter in self.values[given[sign]]]

    def holds(self, clue, given):
        kind = clue[0]
        if kind == 0:
            return (self.read(clue[1], given) in clue[2]) == (clue[3] == 1)
        if kind in (1, 2):
            place = 0 if kind == 1 else -1
            letters = [self.values[given[sign]][place] for sign in clue[1:3]]
            return (letters[0] == letters[1]) == (clue[3] == 1)
        if kind == 3:
            return given[clue[1]] in clue[2]
        letters = self.read(clue[1], given)
        size = len(clue[2])
        places = [start for start in range(len(letters) - size + 1) if letters[start:start + size] == clue[2]]
        return (places != []) == (clue[3] == 1)

    def ways(self, clues):
        return [given for given in permutations(range(len(self.values)), self.signs)
                if all(self.holds(clue, given) for clue in clues)]

    def is_text(self, text):
        return 1 <= len(text) <= 8 and max(text) < self.signs

    def is_clue(self, clue):
        if clue[0] == 0:
            fit = 1 <= len(clue[2]) <= 10 and all(len(word) <= 16 and max(word, default=0) <= 25 for word in clue[2])
            return fit and self.is_text(clue[1])
        if clue[0] in (1, 2):
            return self.is_text(clue[1:3])
        if clue[0] == 3:
            return self.is_text([clue[1]]) and len(clue[2]) <= 10 and max(clue[2], default=-1) < len(self.values)
        return self.is_text(clue[1]) and 1 <= len(clue[2]) <= 16 and max(clue[2]) <= 25

    def change(self, place, told):
        if place == "begins":
            signs, values = told
            fit = 1 <= signs <= 8 and 1 <= len(values) <= 10
            if not fit or any(not 1 <= len(value) <= 3 or max(value) > 25 for value in values):
                return [-1]
            if len(set(tuple(value) for value in values)) < len(values):
                return [-1]
            self.signs, self.values, self.clues = signs, values, []
            return [0]
        if place == "clue":
            if not self.is_clue(told):
                return [-1]
            if len(self.clues) == 24:
                return [-5]
            self.clues = self.clues + [told]
            return [len(self.clues) - 1]
        if told >= len(self.clues):
            return [-2]
        self.clues = self.clues[:told] + self.clues[told + 1:]
        return [0]

    def ask(self, place, told):
        if place == "possible" and told >= self.signs or place == "readings" and not self.is_text(told):
            return [-1]
        found = self.ways(self.clues)
        if len(found) > 300:
            return [-5]
        if place in ("needless", "clash"):
            return self.ask_clues(place, found)
        if place == "ways":
            return [len(found)] + (row(found[0]) if found else [])
        if place == "way":
            return [0] + row(found[told]) if told < len(found) else [-2]
        if place == "possible":
            numbers = sorted(set(given[told] for given in found))
            return [len(numbers)] + row(numbers)
        if place == "readings":
            texts = sorted(set(tuple(self.read(told, given)) for given in found), key=lambda text: (len(text), text))
            return rows(texts)
        return self.ask_signs(place, found)

    def ask_signs(self, place, found):
        if not found or place == "ask" and self.signs == 0:
            return [-3]
        columns = [[given[sign] for given in found] for sign in range(self.signs)]
        if place == "certain":
            return [0] + row([column[0] if len(set(column)) == 1 else len(self.values) for column in columns])
        if place == "ask":
            counts = [max(column.count(number) for number in column) for column in columns]
            return [counts.index(min(counts)), 1, min(counts)]
        for size in range(self.signs + 1):
            for signs in combinations(range(self.signs), size):
                if len(set(tuple(given[sign] for sign in signs) for given in found)) == len(found):
                    return [size] + row(signs)

    def ask_clues(self, place, found):
        if place == "needless":
            numbers = [k for k in range(len(self.clues))
                       if len(self.ways(self.clues[:k] + self.clues[k + 1:])) == len(found)]
            return [len(numbers)] + row(numbers)
        if found:
            return [-6]
        out = []
        for k in range(len(self.clues)):
            if not self.ways([clue for j, clue in enumerate(self.clues) if j != k and j not in out]):
                out.append(k)
        numbers = [k for k in range(len(self.clues)) if k not in out]
        return [len(numbers)] + row(numbers)

    def answer(self, numbers):
        place = PLACES[numbers[0]]
        told = self.told(place, numbers[1:])
        if place in ("begins", "clue", "drop"):
            return self.change(place, told)
        return self.ask(place, told)

    def told(self, place, numbers):
        """What was handed in with the call."""
        if place == "begins":
            return numbers[0], read_rows(numbers, 1)[0]
        if place == "clue":
            return self.told_clue(numbers)
        if place in ("drop", "way", "possible"):
            return numbers[0]
        return numbers[1:]

    def told_clue(self, numbers):
        kind = numbers[0]
        if kind in (1, 2):
            return tuple(numbers)
        if kind == 3:
            return (kind, numbers[1], numbers[3:])
        middle = 2 + numbers[1]
        text = numbers[2:middle]
        if kind == 0:
            words, end = read_rows(numbers, middle)
            return (kind, text, words, numbers[end])
        end = middle + 1 + numbers[middle]
        return (kind, text, numbers[middle + 1:end], numbers[end])


def read_rows(numbers, place):
    """The rows that stand at the place, and the place behind them."""
    found = []
    count = numbers[place]
    place += 1
    for _ in range(count):
        end = place + 1 + numbers[place]
        found.append(numbers[place + 1:end])
        place = end
    return found, place


def plain_run(*calls):
    """The answer to each call, found the plain way."""
    desk = PlainDesk()
    return [desk.answer(list(numbers)) for numbers in calls]
