"""The calls about single sheets: start, plus, minus, trim, fit, over, under.

Each takes the shop and a list of what the call is given, and gives the list of
numbers that are answered.
"""

from stackedsheets.refusals import FULL, NO_SUCH, STACK_FORBIDS, WRONG_SIGN, WRONG_VALUE
from stackedsheets.widths import is_width

MOST_REACH = 100


def call_start(shop, given):
    """Begin anew with this reach."""
    reach = given[0]
    if reach > MOST_REACH:
        return [WRONG_VALUE]
    shop.begin(reach)
    return [0]


def call_plus(shop, given):
    """Lay one plus sheet more."""
    return lay_one(shop, False, given[0])


def call_minus(shop, given):
    """Lay one minus sheet more."""
    return lay_one(shop, True, given[0])


def lay_one(shop, minus, wide):
    """Lay one sheet more and answer its number."""
    if not is_width(wide):
        return [WRONG_VALUE]
    if shop.is_full():
        return [FULL]
    return [shop.lay_sheet(minus, wide)]


def call_trim(shop, given):
    """Cut a loose sheet narrower and answer how wide it was."""
    i = given[0]
    wide = given[1]
    if not shop.has_sheet(i):
        return [NO_SUCH]
    if not shop.is_loose(i):
        return [STACK_FORBIDS]
    sheet = shop.sheets[i]
    if wide == 0 or wide >= sheet.wide:
        return [WRONG_VALUE]
    was = sheet.wide
    sheet.wide = wide
    return [was]


def call_fit(shop, given):
    """Answer whether two sheets fit."""
    i = given[0]
    j = given[1]
    if not shop.has_sheet(i) or not shop.has_sheet(j):
        return [NO_SUCH]
    return [int(shop.fits(i, j))]


def call_over(shop, given):
    """Answer which plus sheets a minus one reaches over."""
    return fitting_to(shop, True, given[0])


def call_under(shop, given):
    """Answer which minus sheets reach over a plus one."""
    return fitting_to(shop, False, given[0])


def fitting_to(shop, minus, i):
    """Answer how many sheets fit to this one, which must be minus or plus as told; then these."""
    if not shop.has_sheet(i):
        return [NO_SUCH]
    if shop.sheets[i].minus != minus:
        return [WRONG_SIGN]
    fitting = shop.fitting(i)
    return [len(fitting)] + fitting
