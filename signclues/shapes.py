"""Turns a clue into the patterns by which its yes comes true.

A pattern tells of each sign, as bits, which values it may have; a way meets it if all its values are among those.
A clue's yes holds of just the ways that meet one of its patterns, its no of just those that meet none.
"""

from signclues.clues import BEGINS_ALIKE
from signclues.clues import ENDS_ALIKE
from signclues.clues import MOST_VALUE_LETTERS
from signclues.clues import ONE_OF
from signclues.clues import READS_AS


class Shape:
    """A clue's patterns as bits, one bit a pattern, so that a search goes on with all of them at once.

    whole: all patterns; keep[sign][value]: those that can still be met once the sign has that value;
    touch[sign]: those that ask something of the sign.
    """

    def __init__(self, patterns, signs, size):
        self.whole = all_bits(len(patterns))
        self.keep = [kept_rows(patterns, sign, size) for sign in range(signs)]
        self.touch = [touched_bits(patterns, sign, size) for sign in range(signs)]


def all_bits(size):
    """So many bits, all of them set."""
    return (1 << size) - 1


def bits_of(flags):
    """A number whose k-th bit tells the k-th flag."""
    bits = 0
    for place, flag in enumerate(flags):
        if flag:
            bits |= 1 << place
    return bits


def kept_rows(patterns, sign, size):
    """For each value: which patterns can still be met once the sign has it."""
    rows = []
    for number in range(size):
        rows.append(bits_of([can_keep(pattern, sign, 1 << number) for pattern in patterns]))
    return rows


def can_keep(pattern, sign, bit):
    """Whether the sign may have the value, and no other sign needs that very value."""
    if (pattern[sign] & bit) == 0:
        return False
    needed = pattern.count(bit)
    return needed == 0 or (needed == 1 and pattern[sign] == bit)


def touched_bits(patterns, sign, size):
    """Which patterns ask something of the sign."""
    return bits_of([pattern[sign] != all_bits(size) for pattern in patterns])


def narrowed(pattern, sign, mask):
    """The pattern with the sign held to the mask too; None if no way can meet that."""
    left = pattern[sign] & mask
    if left == 0:
        return None
    grown = pattern[:sign] + (left,) + pattern[sign + 1:]
    # No two signs have the same value: two that need the very same one are never met.
    if (left & (left - 1)) == 0 and grown.count(left) > 1:
        return None
    return grown


def add_span(spans, pattern, sign, mask, place):
    """Adds the narrowed pattern, with the place that it has come to in a row, unless it can't be met."""
    grown = narrowed(pattern, sign, mask)
    if grown is not None:
        spans.append((grown, place))


def shape_of(clue, signs, syllables):
    """The shape of a clue's yes."""
    size = len(syllables)
    blank = tuple([all_bits(size) for sign in range(signs)])
    if clue.kind == READS_AS:
        spans = reading_spans(clue.text, clue.parts, blank, syllables)
    elif clue.kind == BEGINS_ALIKE:
        spans = alike_spans(clue.text, [row[0] for row in syllables], blank)
    elif clue.kind == ENDS_ALIKE:
        spans = alike_spans(clue.text, [row[-1] for row in syllables], blank)
    elif clue.kind == ONE_OF:
        spans = []
        add_span(spans, blank, clue.text[0], bits_of([number in clue.parts[0] for number in range(size)]), 0)
    else:
        spans = standing_spans(clue.text, clue.parts[0], blank, syllables)
    patterns = {}
    for span in spans:
        patterns[span[0]] = True
    return Shape(list(patterns), signs, size)


def alike_spans(pair, letters, blank):
    """Both signs have values with the same one of these letters."""
    spans = []
    for letter in sorted(set(letters)):
        mask = bits_of([other == letter for other in letters])
        first = narrowed(blank, pair[0], mask)
        if first is not None:
            add_span(spans, first, pair[1], mask, 0)
    return spans


def reading_spans(text, words, blank, syllables):
    """The text reads as one of the words."""
    spans = []
    for word in words:
        spans.extend(word_spans(text, word, blank, syllables))
    return spans


def word_spans(text, word, blank, syllables):
    """The text reads as the word: each sign's value stands in it where the one before ended."""
    spans = [(blank, 0)]
    for sign in text:
        longer = []
        for pattern, place in spans:
            for number, letters in enumerate(syllables):
                end = place + len(letters)
                if word[place:end] == letters:
                    add_span(longer, pattern, sign, 1 << number, end)
        spans = longer
    return [span for span in spans if span[1] == len(word)]


def standing_spans(text, row, blank, syllables):
    """The row stands somewhere in what the text reads as, beginning in one of the signs' values."""
    spans = []
    inside = bits_of([stands_in(row, letters) for letters in syllables])
    for start, sign in enumerate(text):
        add_span(spans, blank, sign, inside, len(row))
        begun = begun_spans(sign, row, blank, syllables)
        spans.extend(ended_spans(text[start + 1:], row, begun, syllables))
    return spans


def stands_in(row, letters):
    """Whether the row stands somewhere in the letters, letter behind letter."""
    return any([letters[start:start + len(row)] == row for start in range(len(letters))])


def begun_spans(sign, row, blank, syllables):
    """The sign's value ends with a beginning of the row, and some of the row is left."""
    spans = []
    for size in range(1, min(MOST_VALUE_LETTERS, len(row) - 1) + 1):
        add_span(spans, blank, sign, bits_of([letters[-size:] == row[:size] for letters in syllables]), size)
    return spans


def ended_spans(text, row, begun, syllables):
    """The begun spans, led on through the text's signs to where the row ends."""
    ended = []
    for sign in text:
        longer = []
        for pattern, place in begun:
            rest = row[place:]
            last = bits_of([letters[:len(rest)] == rest for letters in syllables])
            add_span(ended, pattern, sign, last, len(row))
            for number, letters in enumerate(syllables):
                if len(letters) < len(rest) and rest[:len(letters)] == letters:
                    add_span(longer, pattern, sign, 1 << number, place + len(letters))
        begun = longer
    return ended
