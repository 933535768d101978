"""The sheets that are there, and which of them fit."""

from stackedsheets.widths import reaches_over

MOST_SHEETS = 14


class Sheet:
    """A plus or minus sheet; its stack is None while it lies loose."""

    def __init__(self, minus, wide):
        self.minus = minus
        self.wide = wide
        self.stack = None


class Shop:
    """All sheets by their numbers; the reach is None before the first start."""

    def __init__(self):
        self.reach = None
        self.sheets = []

    def begin(self, reach):
        """Begin anew with nothing there."""
        self.reach = reach
        self.sheets = []

    def has_begun(self):
        """Tell whether a start was answered by 0."""
        return self.reach is not None

    def has_sheet(self, i):
        """Tell whether there is a sheet of this number."""
        return i < len(self.sheets)

    def is_full(self):
        """Tell whether there is no room for one sheet more."""
        return len(self.sheets) >= MOST_SHEETS

    def lay_sheet(self, minus, wide):
        """Lay one sheet more, loose, and give its number."""
        self.sheets.append(Sheet(minus, wide))
        return len(self.sheets) - 1

    def fits(self, i, j):
        """Tell whether these two sheets fit."""
        one = self.sheets[i]
        other = self.sheets[j]
        if one.minus == other.minus:
            return False
        if one.minus:
            return reaches_over(one.wide, other.wide, self.reach)
        return reaches_over(other.wide, one.wide, self.reach)

    def fitting(self, i):
        """Give the numbers of all sheets that fit to this one, rising."""
        return [j for j in range(len(self.sheets)) if self.fits(i, j)]

    def are_sheets(self, listed):
        """Tell whether each number in the list is a sheet's, and none stands twice."""
        for i in listed:
            if not self.has_sheet(i):
                return False
        return len(set(listed)) == len(listed)
