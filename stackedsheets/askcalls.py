"""The calls that ask what is there: loose, stack, height, sheet, state.

Each takes the shop and a list of what the call is given, and gives the list of
numbers that are answered.
"""

from stackedsheets.refusals import NO_SUCH


def call_loose(shop, given):
    """Answer how many sheets lie loose, then how many plus, how many minus ones."""
    plus = len(shop.loose_widths(False))
    minus = len(shop.loose_widths(True))
    return [plus + minus, plus, minus]


def call_stack(shop, given):
    """Answer how many sheets a stack has, then these, from below."""
    number = given[0]
    if not shop.has_stack(number):
        return [NO_SUCH]
    laid = shop.stacks[number]
    return [len(laid)] + laid


def call_height(shop, given):
    """Answer how many plus sheets a stack has, then its widest minus one's width, its narrowest sheet's."""
    number = given[0]
    if not shop.has_stack(number):
        return [NO_SUCH]
    sheets = [shop.sheets[i] for i in shop.stacks[number]]
    minus_widths = [sheet.wide for sheet in sheets if sheet.minus]
    narrowest = min([sheet.wide for sheet in sheets])
    return [len(sheets) - len(minus_widths), max(minus_widths), narrowest]


def call_sheet(shop, given):
    """Answer how wide a sheet is, then whether it is minus, then its stack's number and one, or 0."""
    i = given[0]
    if not shop.has_sheet(i):
        return [NO_SUCH]
    sheet = shop.sheets[i]
    number = shop.stack_of(i)
    return [sheet.wide, int(sheet.minus), 0 if number is None else number + 1]


def call_state(shop, given):
    """Answer how many sheets there are, then how many stacks, then the reach."""
    return [len(shop.sheets), len(shop.stacks), shop.reach]
