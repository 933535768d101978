"""The calls that change stacks: press, take, swap.

Each takes the shop and a list of what the call is given, and gives the list of
numbers that are answered.
"""

from stackedsheets.refusals import BOTH_LOOSE, IN_A_STACK, NO_SUCH, STACK_FORBIDS, WRONG_VALUE


def call_press(shop, given):
    """Make the listed sheets a stack and answer its number."""
    listed = given[0]
    if not shop.are_sheets(listed):
        return [WRONG_VALUE]
    if not all([shop.is_loose(i) for i in listed]):
        return [IN_A_STACK]
    if not shop.is_stack(listed):
        return [STACK_FORBIDS]
    return [shop.lay_stack(listed)]


def call_take(shop, given):
    """Lay a stack's sheets loose again and answer how many they were."""
    number = given[0]
    if not shop.has_stack(number):
        return [NO_SUCH]
    return [len(shop.take_stack(number))]


def call_swap(shop, given):
    """Lay each of two sheets where the other one lies."""
    i = given[0]
    j = given[1]
    if not shop.has_sheet(i) or not shop.has_sheet(j):
        return [NO_SUCH]
    if shop.is_loose(i) and shop.is_loose(j):
        return [BOTH_LOOSE]
    if i == j:
        return [STACK_FORBIDS]
    stacks = shop.stacks_with_swapped(i, j)
    if not all([shop.is_stack(laid) for laid in stacks.values()]):
        return [STACK_FORBIDS]
    shop.stacks = stacks
    return [0]
