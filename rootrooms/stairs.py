"""Stairs: rows by a prime, taken in one after the other, each with a lead of its own."""

from rootrooms.rests import contrary


class Stairs:
    """Steps by their leads: a step has 1 at its lead, where all others have 0, and 0 before it.

    A lead stands in one of the first so many columns; what a row has behind these is taken along.
    """

    def __init__(self, columns, prime):
        self.columns = columns
        self.prime = prime
        self.steps = {}

    def left_of(self, row):
        """Tell what is left of a row less its share of the steps: a list with 0 at each lead.

        At its lead no other step has a number, so that the row itself tells the share of each.
        """
        left = row
        for lead, step in self.steps.items():
            share = row[lead]
            if share:
                left = [x - share * y for x, y in zip(left, step)]
        return [x % self.prime for x in left]

    def put(self, left):
        """Put on what was left of a row, and tell whether it had a lead."""
        for lead in range(self.columns):
            if left[lead]:
                self._put_at(lead, left)
                return True
        return False

    def take(self, row):
        """Take in a row, and tell whether it is no sum of times of those taken in before."""
        return self.put(self.left_of(row))

    def _put_at(self, lead, left):
        back = contrary(left[lead], prime=self.prime)
        step = [back * x % self.prime for x in left]
        for other in list(self.steps):
            share = self.steps[other][lead]
            if share:
                self.steps[other] = [(x - share * y) % self.prime for x, y in zip(self.steps[other], step)]
        self.steps[lead] = step
