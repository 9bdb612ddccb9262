"""Intervals of whole numbers, no two of which meet, each with what holds it."""


class Intervals:
    """They're kept by rising lowest number, so that one is found by halving, however many there are."""

    def __init__(self):
        self.lows = []
        self.highs = []
        self.holders = []

    def begun_by(self, number):
        """How many of them begin at this number or below it."""
        under = 0
        over = len(self.lows)
        while under < over:
            middle = (under + over) // 2
            if self.lows[middle] <= number:
                under = middle + 1
            else:
                over = middle
        return under

    def meets(self, low, high):
        """Whether some number from low to high lies in one of them."""
        begun = self.begun_by(high)
        return begun > 0 and self.highs[begun - 1] >= low

    def holder_of(self, number):
        """What holds the one that this number lies in; None if it lies in none."""
        begun = self.begun_by(number)
        if begun == 0 or self.highs[begun - 1] < number:
            return None
        return self.holders[begun - 1]

    def add(self, low, high, holder):
        """Takes up the interval from low to high, which must meet none of them."""
        begun = self.begun_by(low)
        self.lows.insert(begun, low)
        self.highs.insert(begun, high)
        self.holders.insert(begun, holder)
