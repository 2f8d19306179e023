"""What can be told of some ways: each is a row of the signs' values by their numbers."""


def certain_values(ways, signs, size):
    """Of each sign its value if all ways have the same there, else size."""
    found = []
    for sign in range(signs):
        numbers = possible_values(ways, sign)
        found.append(numbers[0] if len(numbers) == 1 else size)
    return found


def possible_values(ways, sign):
    """All values that the sign has in some way, rising."""
    return sorted(set([way[sign] for way in ways]))


def reading_of(way, text, syllables):
    """What the text reads as by the way."""
    letters = []
    for sign in text:
        letters.extend(syllables[way[sign]])
    return tuple(letters)


def all_readings(ways, text, syllables):
    """All that the text reads as by some way, each once, shorter ones first."""
    seen = {}
    for way in ways:
        seen[reading_of(way, text, syllables)] = True
    return sorted(list(seen), key=lambda reading: (len(reading), reading))


def rising_rows(signs, size):
    """All rows of so many rising signs, in order."""
    rows = [[]]
    for turn in range(size):
        longer = []
        for row in rows:
            first = row[-1] + 1 if row else 0
            longer.extend([row + [sign] for sign in range(first, signs)])
        rows = longer
    return rows


def values_at(way, row):
    """The way's values at the signs of the row."""
    return tuple([way[sign] for sign in row])


def settles(ways, row):
    """Whether no two ways have the same values at all signs of the row."""
    return len(set([values_at(way, row) for way in ways])) == len(ways)


def settling_row(ways, signs):
    """The first of the shortest rows of rising signs that settle."""
    for size in range(signs):
        for row in rising_rows(signs, size):
            if settles(ways, row):
                return row
    # No two ways are alike, so all signs together always settle.
    return list(range(signs))


def most_alike(ways, sign, size):
    """How many ways at most have the same value at the sign."""
    numbers = [way[sign] for way in ways]
    return max([numbers.count(number) for number in range(size)])


def sign_to_ask(ways, signs, size):
    """The first sign for which the fewest ways at most are left alike; and how many those are."""
    counts = [most_alike(ways, sign, size) for sign in range(signs)]
    least = min(counts)
    return (counts.index(least), least)
