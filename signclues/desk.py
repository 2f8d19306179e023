"""Answers calls about one script and its clues."""

from signclues.clues import read_clue
from signclues.findings import all_readings
from signclues.findings import certain_values
from signclues.findings import possible_values
from signclues.findings import settling_row
from signclues.findings import sign_to_ask
from signclues.reader import Reader
from signclues.refusals import NotOne
from signclues.refusals import NotThere
from signclues.refusals import NoWay
from signclues.refusals import TooMany
from signclues.refusals import WayLeft
from signclues.script import Script


def listed(number, row):
    """An answer of a number and one list."""
    return [number, len(row)] + list(row)


def begins(script, reader):
    signs = reader.take_number()
    script.begin(signs, reader.take_rows())
    return [0]


def clue(script, reader):
    return [script.add_clue(read_clue(reader))]


def drop(script, reader):
    script.drop_clue(reader.take_number())
    return [0]


def ways(script, reader):
    found = script.ways()
    if len(found) == 0:
        return [0]
    return listed(len(found), found[0])


def way(script, reader):
    number = reader.take_number()
    found = script.ways()
    if number >= len(found):
        raise NotThere()
    return listed(0, found[number])


def certain(script, reader):
    return listed(0, certain_values(script.some_ways(), script.signs, len(script.syllables)))


def possible(script, reader):
    sign = reader.take_number()
    script.check_sign(sign)
    numbers = possible_values(script.ways(), sign)
    return listed(len(numbers), numbers)


def readings(script, reader):
    text = reader.take_row()
    script.check_text(text)
    found = all_readings(script.ways(), text, script.syllables)
    answered = [len(found)]
    for reading in found:
        answered.append(len(reading))
        answered.extend(reading)
    return answered


def settle(script, reader):
    row = settling_row(script.some_ways(), script.signs)
    return listed(len(row), row)


def ask(script, reader):
    found = script.some_ways()
    if script.signs == 0:
        raise NoWay()
    best = sign_to_ask(found, script.signs, len(script.syllables))
    return listed(best[0], [best[1]])


def needless(script, reader):
    numbers = script.needless()
    return listed(len(numbers), numbers)


def clash(script, reader):
    numbers = script.clash()
    return listed(len(numbers), numbers)


CALLS = (begins, clue, drop, ways, way, certain, possible, readings, settle, ask, needless, clash)


def answer(script, numbers):
    """One call's answer: its numbers, or a refusal alone."""
    reader = Reader(numbers)
    call = CALLS[reader.take_number()]
    try:
        return call(script, reader)
    except NotOne:
        return [-1]
    except NotThere:
        return [-2]
    except NoWay:
        return [-3]
    except TooMany:
        return [-5]
    except WayLeft:
        return [-6]


def answers(calls):
    """The answers to a list of calls on a new script, each behind how many numbers it has."""
    script = Script()
    given = []
    place = 0
    while place < len(calls):
        # A call begins with 0, its number here, and how many numbers follow.
        start = place + 2
        place = start + calls[place + 1]
        answered = answer(script, calls[start:place])
        given.append(len(answered))
        given.extend(answered)
    return given
