"""Reads one call's numbers from the front to the back."""


class Reader:
    """Whole numbers and a place in them; each reading moves the place on."""

    def __init__(self, numbers):
        self.numbers = numbers
        self.place = 0

    def take_number(self):
        """The number at the place."""
        number = self.numbers[self.place]
        self.place += 1
        return number

    def take_row(self):
        """A row: how many it has, then they."""
        size = self.take_number()
        row = self.numbers[self.place:self.place + size]
        self.place += size
        return row

    def take_rows(self):
        """Rows: how many there are, then each."""
        rows = []
        for turn in range(self.take_number()):
            rows.append(self.take_row())
        return rows
