"""What widths alone tell: which sheet reaches over which, and which can be stacked."""

WIDEST = 1000


def is_width(wide):
    """Tell whether a sheet can be so wide."""
    return 1 <= wide <= WIDEST


def least_over(plus_width, reach):
    """Tell how wide a minus sheet must be at least to reach over so wide a plus one."""
    return plus_width + 2 * reach


def reaches_over(minus_width, plus_width, reach):
    """Tell whether so wide a minus sheet reaches over so wide a plus one."""
    return minus_width >= least_over(plus_width, reach)


def can_be_stacked(plus_widths, minus_widths, reach):
    """Tell whether all these are a stack in some order."""
    if not plus_widths or len(minus_widths) != len(plus_widths) + 1:
        return False
    # Beside the k widest plus sheets lie k + 1 minus ones at least, and each of
    # these reaches over the narrowest of the k. That is also enough: laid by
    # width in turn, each plus sheet lies between two that reach over it. So each
    # is held against the minus one at its own place from the narrowest up.
    for plus_width, minus_width in zip(sorted(plus_widths), sorted(minus_widths)):
        if not reaches_over(minus_width, plus_width, reach):
            return False
    return True


def least_more(plus_widths, minus_widths, reach):
    """Tell how wide one minus sheet more must be at least to stack all, or None."""
    # A width between two of these reaches over nothing more than the lower one.
    for plus_width in sorted(plus_widths):
        wide = least_over(plus_width, reach)
        if can_be_stacked(plus_widths, minus_widths + [wide], reach):
            return wide
    return None
