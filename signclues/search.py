"""Searches for the ways that meet some shapes and don't meet others."""


class Search:
    """A search from sign to sign that turns back as soon as a shape is lost.

    Each shape of yes must be met, none of no may be. What is kept of a shape on the way is the bits of those
    of its patterns that can still be met; of one of yes that is met already, whatever follows, -1.
    """

    def __init__(self, signs, size, yes, no, limit):
        choices = [choices_of(sign, size, yes, no) for sign in range(signs)]
        self.order = search_order(choices, yes + no)
        self.moves = [moves_of(sign, choices[sign], yes, no) for sign in self.order]
        self.yes_ends = [ends_of(yes, self.order[:turn + 1]) for turn in range(signs)]
        self.no_ends = [ends_of(no, self.order[:turn + 1]) for turn in range(signs)]
        self.limit = limit
        self.way = [0] * signs
        self.found = []
        self.lost = {}

    def go_on(self, turn, used, yes, no):
        """Finds all ways that go on from here: the signs of the turns before have the used values."""
        if turn == len(self.order):
            self.found.append(tuple(self.way))
            return
        # What follows hangs on these alone: without the note, signs that don't bear on a failure
        # would have it gone through again for each of their values.
        state = (used, tuple(yes), tuple(no))
        if state in self.lost:
            return
        before = len(self.found)
        for move in self.moves[turn]:
            if (used >> move[0]) & 1 == 0:
                self.try_move(turn, used, yes, no, move)
            if len(self.found) >= self.limit:
                return
        if len(self.found) == before:
            self.lost[state] = True

    def try_move(self, turn, used, yes, no, move):
        """Gives the turn's sign the move's value and goes on, if no shape stands against it."""
        yes_left = [bits if bits == -1 else bits & keep for bits, keep in zip(yes, move[1])]
        if 0 in yes_left:
            return
        no_left = [bits & keep for bits, keep in zip(no, move[2])]
        if any([bits & end for bits, end in zip(no_left, self.no_ends[turn])]):
            return
        yes_left = [-1 if bits & end else bits for bits, end in zip(yes_left, self.yes_ends[turn])]
        self.way[self.order[turn]] = move[0]
        self.go_on(turn + 1, used | (1 << move[0]), yes_left, no_left)


def ends_of(shapes, given):
    """Of each shape the patterns that ask nothing of any sign but the given ones."""
    ends = []
    for shape in shapes:
        bits = shape.whole
        for sign, touched in enumerate(shape.touch):
            if sign not in given:
                bits &= ~touched
        ends.append(bits)
    return ends


def choices_of(sign, size, yes, no):
    """The values that no shape by itself keeps from the sign."""
    ends = ends_of(no, [sign])
    choices = []
    for number in range(size):
        fits = all([shape.keep[sign][number] for shape in yes])
        if fits and not any([shape.keep[sign][number] & end for shape, end in zip(no, ends)]):
            choices.append(number)
    return choices


def moves_of(sign, choices, yes, no):
    """Each value of the choices, with the patterns of yes and of no that it keeps."""
    moves = []
    for number in choices:
        yes_keep = [shape.keep[sign][number] for shape in yes]
        moves.append((number, yes_keep, [shape.keep[sign][number] for shape in no]))
    return moves


def search_order(choices, shapes):
    """The order in which signs are tried: few choices first, and signs that shapes link to those before."""
    order = []
    for turn in range(len(choices)):
        free = [sign for sign in range(len(choices)) if sign not in order]
        order.append(min(free, key=lambda sign: order_key(sign, choices, shapes, order)))
    return order


def order_key(sign, choices, shapes, order):
    """The less it is, the sooner the sign should be tried behind the order so far."""
    touching = [shape for shape in shapes if shape.touch[sign]]
    linked = [shape for shape in touching if touches_any(shape, order)]
    return (len(choices[sign]) - 2 * len(linked), -len(touching))


def touches_any(shape, order):
    """Whether some pattern asks something of one of these signs."""
    return any([shape.touch[sign] for sign in order])


def find_ways(signs, size, yes, no, limit):
    """The ways in their order if there are fewer than the limit, else as many of them as the limit."""
    if signs > size:
        return []
    search = Search(signs, size, yes, no, limit)
    search.go_on(0, 0, [shape.whole for shape in yes], [shape.whole for shape in no])
    return sorted(search.found)
