"""The score that a list's calls are about, as it is between two calls."""


class Score:
    """The bars' lengths, the bars before which there's a break, and the staves.

    A staff is a list of bars, one for each of the score's.
    """

    def __init__(self):
        self.lengths = []
        self.breaks = []
        self.staves = []

    def begin(self, lengths, breaks):
        """Become a score of these bars, without staves."""
        self.lengths = lengths
        self.breaks = breaks
        self.staves = []

    def add_staff(self, bars):
        """Add a staff of these bars and answer its number."""
        self.staves.append(bars)
        return len(self.staves) - 1

    def has_staff(self, number):
        """Whether there's a staff of that number."""
        return number < len(self.staves)
