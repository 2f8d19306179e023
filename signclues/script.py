"""A script with its clues, and what hangs on both."""

from signclues.clues import is_clue
from signclues.clues import is_script
from signclues.clues import is_text
from signclues.refusals import NotOne
from signclues.refusals import NotThere
from signclues.refusals import NoWay
from signclues.refusals import TooMany
from signclues.refusals import WayLeft
from signclues.search import find_ways
from signclues.shapes import shape_of

MOST_CLUES = 24
MOST_WAYS = 300


class Script:
    """So many signs, the values that they may have, and the clues as pairs: yes or no (1 or 0), and a shape."""

    def __init__(self):
        self.signs = 0
        self.syllables = []
        self.rules = []
        # The ways, kept until a change: most calls ask about the same ones. None: not searched yet.
        self.known = None

    def begin(self, signs, syllables):
        """A script without clues in the place of the one before."""
        if not is_script(signs, syllables):
            raise NotOne()
        self.signs = signs
        self.syllables = syllables
        self.rules = []
        self.known = None

    def add_clue(self, clue):
        """Makes it the last clue; its number."""
        if not is_clue(clue, self.signs, len(self.syllables)):
            raise NotOne()
        if len(self.rules) >= MOST_CLUES:
            raise TooMany()
        self.rules.append((clue.wanted, shape_of(clue, self.signs, self.syllables)))
        self.known = None
        return len(self.rules) - 1

    def drop_clue(self, number):
        """Takes the clue out; those behind it move up."""
        if number >= len(self.rules):
            raise NotThere()
        self.rules = self.without(number)
        self.known = None

    def without(self, number):
        """All rules but this one."""
        return self.rules[:number] + self.rules[number + 1:]

    def ways_by(self, rules, limit):
        """The ways of which these rules hold, as many as the limit at most."""
        yes = [shape for wanted, shape in rules if wanted == 1]
        no = [shape for wanted, shape in rules if wanted == 0]
        return find_ways(self.signs, len(self.syllables), yes, no, limit)

    def ways(self):
        """All ways in their order."""
        if self.known is None:
            self.known = self.ways_by(self.rules, MOST_WAYS + 1)
        if len(self.known) > MOST_WAYS:
            raise TooMany()
        return self.known

    def some_ways(self):
        """All ways, of which there is one at least."""
        ways = self.ways()
        if len(ways) == 0:
            raise NoWay()
        return ways

    def check_sign(self, sign):
        """Refuses what is no sign of the script."""
        if sign >= self.signs:
            raise NotOne()

    def check_text(self, text):
        """Refuses what is no text of the script."""
        if not is_text(text, self.signs):
            raise NotOne()

    def needless(self):
        """The clues without which, each by itself, there would be no more ways."""
        self.ways()
        return [number for number in range(len(self.rules)) if self.is_needless(number)]

    def is_needless(self, number):
        """Whether no way is kept out by this clue alone."""
        rule = self.rules[number]
        # A way more without the clue is one of which all others hold, and this one doesn't.
        return len(self.ways_by(self.without(number) + [(1 - rule[0], rule[1])], 1)) == 0

    def clash(self):
        """The clues that are left when each that isn't needed to have no way is left out, from the first on."""
        if len(self.ways()) > 0:
            raise WayLeft()
        left = list(range(len(self.rules)))
        for number in range(len(self.rules)):
            fewer = [other for other in left if other != number]
            if len(self.ways_by([self.rules[other] for other in fewer], 1)) == 0:
                left = fewer
        return left
