"""The calls on one object, one behind another."""

from stackedsheets.askcalls import call_height, call_loose, call_sheet, call_stack, call_state
from stackedsheets.presscalls import call_press, call_swap, call_take
from stackedsheets.reader import Reader
from stackedsheets.refusals import NOT_STARTED
from stackedsheets.sheetcalls import call_fit, call_minus, call_over, call_plus
from stackedsheets.sheetcalls import call_start, call_trim, call_under
from stackedsheets.shop import Shop
from stackedsheets.stackcalls import call_check, call_could, call_most, call_need, call_order

START = 0


def answers(calls):
    """Give for each call how many numbers are answered, then these."""
    shop = Shop()
    reader = Reader(calls)
    handlers = handlers_by_number()
    told = []
    while reader.has_more():
        number = reader.read_number()
        given = reader.read_given(number)
        answer = answer_call(shop, handlers, number, given)
        told.append(len(answer))
        told.extend(answer)
    return told


def answer_call(shop, handlers, number, given):
    """Give the numbers that are answered to one call."""
    if number != START and not shop.has_begun():
        return [NOT_STARTED]
    handler = handlers[number]
    return handler(shop, given)


def handlers_by_number():
    """Give for each call's number what answers it."""
    return {
        START: call_start,
        1: call_plus,
        2: call_minus,
        3: call_trim,
        4: call_fit,
        5: call_over,
        6: call_under,
        7: call_order,
        8: call_could,
        9: call_need,
        10: call_press,
        11: call_take,
        12: call_swap,
        13: call_most,
        14: call_loose,
        15: call_stack,
        16: call_height,
        17: call_sheet,
        18: call_check,
        19: call_state,
    }
