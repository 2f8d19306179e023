"""The errors that stand for a refused call; one that is raised has changed nothing."""


class NotOne(Exception):
    """What was handed in is no script, clue, sign or text."""


class NotThere(Exception):
    """There is no clue or way of this number."""


class NoWay(Exception):
    """There is no way, or no sign, to tell of."""


class TooMany(Exception):
    """There are too many ways, or no room for one more clue."""


class WayLeft(Exception):
    """There is a way, so no clues clash."""
