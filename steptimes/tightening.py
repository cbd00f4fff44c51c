"""A net with one limit more: whether it's still surely kept, and how tight that limit can be."""

from steptimes.forms import judge
from steptimes.nets import Limit

LEAST_MORE = -12000
MOST_MORE = 12000


def one_more(i, j, w):
    """The limit that j is at most w after i; below 0, that i is at least -w after j."""
    return Limit(i, j, None, w) if w >= 0 else Limit(j, i, -w, None)


def is_sure_with(net, i, j, w):
    return judge(net.with_limit(one_more(i, j, w))).form is not None


def tightest(net, i, j):
    """The least w with which the net is surely kept, or None."""
    if not is_sure_with(net, i, j, MOST_MORE):
        return None
    # A limit lowers the told bounds, and lower bounds never make a form greater, so that a looser limit is
    # kept wherever a tighter one is. Hence halving: `high` is kept, all below `low` are not.
    low = LEAST_MORE
    high = MOST_MORE
    while low < high:
        middle = (low + high) // 2
        if is_sure_with(net, i, j, middle):
            high = middle
        else:
            low = middle + 1
    return low
