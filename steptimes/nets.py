"""What a net is made of: steps, limits and natures."""

START_NAME = (115, 116, 97, 114, 116)
MOST_STEPS = 12
MOST_LIMITS = 40
MOST_NATURES = 5


class Limit:
    """The second step is at least `least` and at most `most` ticks after the first; None is missing."""

    def __init__(self, first, second, least, most):
        self.first = first
        self.second = second
        self.least = least
        self.most = most


class Nature:
    """Nature does the step `own` at least `lo` and at most `hi` ticks after the step `cause`."""

    def __init__(self, cause, own, lo, hi):
        self.cause = cause
        self.own = own
        self.lo = lo
        self.hi = hi


class Net:
    """Names are tuples of bytes; a step's number is its place among them."""

    def __init__(self):
        self.names = [START_NAME]
        self.limits = []
        self.natures = []

    def has_step(self, step):
        return 0 <= step < len(self.names)

    def has_nature(self, nature):
        return 0 <= nature < len(self.natures)

    def is_own(self, step):
        return any([nature.own == step for nature in self.natures])
