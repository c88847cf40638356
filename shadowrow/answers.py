"""What is told of a row: that there can be such a family, or where it is barred."""

from shadowrow.checks import is_number, is_row
from shadowrow.excess import first_excess


class Answer:
    """What is told of a row."""


class Can(Answer):
    """There is a family that has the row."""

    def shows(self, row):
        """Tell whether there is such a family."""
        return is_row(row) and first_excess(row) is None


class Barred(Answer):
    """There is none: of that size the row has more than the most that there can be."""

    def __init__(self, size, most):
        self.size = size
        self.most = most

    def shows(self, row):
        """Tell whether the row is barred at that size, the least such, by that many."""
        fields = (self.size, self.most)
        # True and False are no numbers, though they equal 1 and 0.
        if not all([is_number(each) for each in fields]):
            return False
        return is_row(row) and first_excess(row) == fields
