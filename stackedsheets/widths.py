"""What widths alone tell: which sheet reaches over which, and which can be stacked."""

WIDEST = 1000


def is_width(wide):
    """Tell whether a sheet can be so wide."""
    return 1 <= wide <= WIDEST


def least_over(plus_width, reach):
    """Tell how wide a minus sheet must be at least to reach over so wide a plus one."""
    return plus_width + 2 * reach


def reaches_over(minus_width, plus_width, reach):
    """Tell whether so wide a minus sheet reaches over so wide a plus one."""
    return minus_width >= least_over(plus_width, reach)


def can_be_stacked(plus_widths, minus_widths, reach):
    """Tell whether all these are a stack in some order."""
    if not plus_widths or len(minus_widths) != len(plus_widths) + 1:
        return False
    # Beside the k widest plus sheets lie k + 1 minus ones at least, and each of
    # these reaches over the narrowest of the k. That is also enough: laid by
    # width in turn, each plus sheet lies between two that reach over it. So each
    # is held against the minus one at its own place from the narrowest up.
    for plus_width, minus_width in zip(sorted(plus_widths), sorted(minus_widths)):
        if not reaches_over(minus_width, plus_width, reach):
            return False
    return True


def least_more(plus_widths, minus_widths, reach):
    """Tell how wide one minus sheet more must be at least to stack all, or None."""
    # A width between two of these reaches over nothing more than the lower one.
    for plus_width in sorted(plus_widths):
        wide = least_over(plus_width, reach)
        if can_be_stacked(plus_widths, minus_widths + [wide], reach):
            return wide
    return None


def most_stacks(plus_widths, minus_widths, k, reach):
    """Tell how many stacks of k plus sheets and k and one minus sheets each can be laid at once."""
    count = 0
    while can_be_laid(plus_widths, minus_widths, k, count + 1, reach):
        count += 1
    return count


def can_be_laid(plus_widths, minus_widths, k, count, reach):
    """Tell whether so many stacks of k plus sheets each can be laid at once."""
    if len(plus_widths) < count * k or len(minus_widths) < count * (k + 1):
        return False
    # Where a sheet can lie, a narrower plus one or a wider minus one can lie too.
    narrowest = sorted(plus_widths)[:count * k]
    widest = sorted(minus_widths, reverse=True)
    for least, minus_width in zip(least_minus_widths(narrowest, k, reach), widest):
        if minus_width < least:
            return False
    return True


def least_minus_widths(plus_widths, k, reach):
    """Give how wide the minus sheets must be at least, falling, for stacks of k of these plus ones each."""
    # Beside the widest plus sheets of one stack lies one minus sheet more than
    # they are. So as few stacks as can be should have the widest: one has the k
    # widest, one the next k, and in each the widest needs two minus sheets.
    least = []
    for place, plus_width in enumerate(sorted(plus_widths, reverse=True)):
        if place % k == 0:
            least.append(least_over(plus_width, reach))
        least.append(least_over(plus_width, reach))
    return least
