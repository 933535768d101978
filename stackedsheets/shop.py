"""The sheets and stacks that are there, and which sheets fit."""

from stackedsheets.widths import reaches_over

MOST_SHEETS = 14
LEAST_IN_STACK = 3


class Sheet:
    """A plus or minus sheet."""

    def __init__(self, minus, wide):
        self.minus = minus
        self.wide = wide


class Shop:
    """All sheets and stacks by their numbers; the reach is None before the first start.

    A stack is the list of its sheets' numbers, from below.
    """

    def __init__(self):
        self.reach = None
        self.sheets = []
        self.stacks = {}

    def begin(self, reach):
        """Begin anew with nothing there."""
        self.reach = reach
        self.sheets = []
        self.stacks = {}

    def has_begun(self):
        """Tell whether a start was answered by 0."""
        return self.reach is not None

    def has_sheet(self, i):
        """Tell whether there is a sheet of this number."""
        return i < len(self.sheets)

    def has_stack(self, number):
        """Tell whether there is a stack of this number."""
        return number in self.stacks

    def is_full(self):
        """Tell whether there is no room for one sheet more."""
        return len(self.sheets) >= MOST_SHEETS

    def lay_sheet(self, minus, wide):
        """Lay one sheet more, loose, and give its number."""
        self.sheets.append(Sheet(minus, wide))
        return len(self.sheets) - 1

    def fits(self, i, j):
        """Tell whether these two sheets fit."""
        one = self.sheets[i]
        other = self.sheets[j]
        if one.minus == other.minus:
            return False
        if one.minus:
            return reaches_over(one.wide, other.wide, self.reach)
        return reaches_over(other.wide, one.wide, self.reach)

    def fitting(self, i):
        """Give the numbers of all sheets that fit to this one, rising."""
        return [j for j in range(len(self.sheets)) if self.fits(i, j)]

    def are_sheets(self, listed):
        """Tell whether each number in the list is a sheet's, and none stands twice."""
        for i in listed:
            if not self.has_sheet(i):
                return False
        return len(set(listed)) == len(listed)

    def is_stack(self, listed):
        """Tell whether the listed sheets, in this order from below, are a stack."""
        if not is_size_of_stack(len(listed)) or not self.sheets[listed[0]].minus:
            return False
        return all([self.fits(lower, upper) for lower, upper in zip(listed, listed[1:])])

    def stack_of(self, i):
        """Give the number of the stack in which this sheet lies, or None while it lies loose."""
        for number, laid in self.stacks.items():
            if i in laid:
                return number
        return None

    def is_loose(self, i):
        """Tell whether this sheet lies in no stack."""
        return self.stack_of(i) is None

    def loose_widths(self, minus):
        """Give the widths of all minus sheets that lie loose, or of all plus ones."""
        widths = []
        for i, sheet in enumerate(self.sheets):
            if sheet.minus == minus and self.is_loose(i):
                widths.append(sheet.wide)
        return widths

    def lay_stack(self, listed):
        """Lay the listed sheets on one another and give the stack's number."""
        number = 0
        while number in self.stacks:
            number += 1
        self.stacks[number] = list(listed)
        return number

    def take_stack(self, number):
        """Lay a stack's sheets loose again and give their numbers."""
        return self.stacks.pop(number)

    def stacks_with_swapped(self, i, j):
        """Give what the stacks were if each of these two sheets lay where the other one lies."""
        instead = {i: j, j: i}
        stacks = {}
        for number, laid in self.stacks.items():
            stacks[number] = [instead.get(one, one) for one in laid]
        return stacks


def is_size_of_stack(count):
    """Tell whether a stack can have so many sheets."""
    return count >= LEAST_IN_STACK and count % 2 == 1
