"""The calls that ask what can be stacked: order, could, need, check, most.

Each takes the shop and a list of what the call is given, and gives the list of
numbers that are answered.
"""

from stackedsheets.refusals import NO_WAY, WRONG_VALUE
from stackedsheets.shop import is_size_of_stack
from stackedsheets.widths import can_be_stacked, is_width, least_more, most_stacks

MOST_PLUS_WIDTHS = 7
MOST_MINUS_WIDTHS = 8
MOST_PLUS_IN_EACH = 3


def call_order(shop, given):
    """Answer the first order of the listed sheets that is a stack."""
    listed = given[0]
    if not shop.are_sheets(listed):
        return [WRONG_VALUE]
    order = first_order(shop, listed)
    if order is None:
        return [NO_WAY]
    return [len(order)] + order


def first_order(shop, listed):
    """Give the first order of the listed sheets that is a stack, or None."""
    if not is_size_of_stack(len(listed)):
        return None
    begun = [[i] for i in listed if shop.sheets[i].minus]
    for place in range(1, len(listed)):
        begun = one_higher(shop, begun, listed)
    # What is told earlier in the list is laid earlier at each place, so the
    # orders stand from the first on.
    return begun[0] if begun else None


def one_higher(shop, begun, listed):
    """Give each begun stack with each listed sheet more that can lie on it."""
    higher = []
    for laid in begun:
        for i in listed:
            if i not in laid and shop.fits(laid[-1], i):
                higher.append(laid + [i])
    return higher


def call_could(shop, given):
    """Answer whether sheets of these widths can be stacked."""
    plus_widths = given[0]
    minus_widths = given[1]
    if not are_widths(plus_widths, minus_widths):
        return [WRONG_VALUE]
    return [int(can_be_stacked(plus_widths, minus_widths, shop.reach))]


def call_need(shop, given):
    """Answer how wide one minus sheet more must be at least, so that all can be stacked."""
    plus_widths = given[0]
    minus_widths = given[1]
    if not are_widths(plus_widths, minus_widths):
        return [WRONG_VALUE]
    wide = least_more(plus_widths, minus_widths, shop.reach)
    if wide is None:
        return [NO_WAY]
    return [wide]


def are_widths(plus_widths, minus_widths):
    """Tell whether these are widths of sheets, and no more than may be asked of."""
    if len(plus_widths) > MOST_PLUS_WIDTHS or len(minus_widths) > MOST_MINUS_WIDTHS:
        return False
    return all([is_width(wide) for wide in plus_widths + minus_widths])


def call_check(shop, given):
    """Answer whether the listed sheets, in their order, are a stack."""
    listed = given[0]
    if not shop.are_sheets(listed):
        return [WRONG_VALUE]
    return [int(shop.is_stack(listed))]


def call_most(shop, given):
    """Answer how many stacks of k plus sheets each can be laid at once of those that lie loose."""
    k = given[0]
    if k < 1 or k > MOST_PLUS_IN_EACH:
        return [WRONG_VALUE]
    return [most_stacks(shop.loose_widths(False), shop.loose_widths(True), k, shop.reach)]
