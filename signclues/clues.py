"""What a script, a text and a clue are."""

MOST_SIGNS = 8
MOST_VALUES = 10
MOST_VALUE_LETTERS = 3
LAST_LETTER = 25
MOST_TEXT_SIGNS = 8
MOST_WORDS = 10
MOST_ROW_LETTERS = 16

READS_AS = 0
BEGINS_ALIKE = 1
ENDS_ALIKE = 2
ONE_OF = 3
STANDS_IN = 4


class Clue:
    """A clue of any kind: its signs as a text, its rows as parts, and whether it is a yes (1) or a no (0).

    The parts are the words of clue 0, the values' numbers of clue 3 as one row, and the one row of clue 4.
    """

    def __init__(self, kind, text, parts, wanted):
        self.kind = kind
        self.text = text
        self.parts = parts
        self.wanted = wanted


def read_clue(reader):
    """The clue that stands at the reader's place."""
    kind = reader.take_number()
    if kind == READS_AS:
        text = reader.take_row()
        parts = reader.take_rows()
        return Clue(kind, text, parts, reader.take_number())
    if kind == STANDS_IN:
        text = reader.take_row()
        parts = [reader.take_row()]
        return Clue(kind, text, parts, reader.take_number())
    if kind == ONE_OF:
        text = [reader.take_number()]
        return Clue(kind, text, [reader.take_row()], 1)
    text = [reader.take_number()]
    text.append(reader.take_number())
    return Clue(kind, text, [], reader.take_number())


def are_letters(row, least, most):
    """Whether a row has from least to most members, each of them a letter."""
    return least <= len(row) <= most and all([letter <= LAST_LETTER for letter in row])


def is_script(signs, syllables):
    """Whether there is a script of so many signs with these values."""
    if signs < 1 or signs > MOST_SIGNS or len(syllables) < 1 or len(syllables) > MOST_VALUES:
        return False
    if not all([are_letters(row, 1, MOST_VALUE_LETTERS) for row in syllables]):
        return False
    return all([syllables.count(row) == 1 for row in syllables])


def is_text(text, signs):
    """Whether a row of numbers is a text of a script with so many signs."""
    return 1 <= len(text) <= MOST_TEXT_SIGNS and all([sign < signs for sign in text])


def is_clue(clue, signs, size):
    """Whether a clue is one of a script with so many signs and values."""
    if not is_text(clue.text, signs):
        return False
    if clue.kind == READS_AS:
        fit = all([are_letters(word, 0, MOST_ROW_LETTERS) for word in clue.parts])
        return fit and 1 <= len(clue.parts) <= MOST_WORDS
    if clue.kind == STANDS_IN:
        return are_letters(clue.parts[0], 1, MOST_ROW_LETTERS)
    if clue.kind == ONE_OF:
        fit = all([number < size for number in clue.parts[0]])
        return fit and len(clue.parts[0]) <= MOST_VALUES
    return True
