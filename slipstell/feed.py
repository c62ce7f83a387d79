"""Numbers handed in, taken one behind another without a change to them."""


class Feed:
    """A list of numbers, and the place up to which it has been taken."""

    def __init__(self, numbers):
        self.numbers = numbers
        self.place = 0

    def ended(self):
        """Whether all numbers have been taken."""
        return self.place >= len(self.numbers)

    def number(self):
        """Takes one number."""
        taken = self.numbers[self.place]
        self.place = self.place + 1
        return taken

    def row(self):
        """Takes a row that has before it how many numbers it has."""
        many = self.number()
        start = self.place
        self.place = start + many
        return self.numbers[start:self.place]
