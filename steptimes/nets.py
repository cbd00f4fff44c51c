"""What a net is made of: steps, limits and natures."""

START_NAME = (115, 116, 97, 114, 116)
MOST_STEPS = 12
MOST_LIMITS = 40
MOST_NATURES = 5


class Limit:
    """The second step is at least `least` and at most `most` ticks after the first; None is missing."""

    def __init__(self, first, second, least, most):
        self.first = first
        self.second = second
        self.least = least
        self.most = most

    def is_kept(self, times):
        """If the steps' times (None: not done) keep it; what isn't done breaks nothing."""
        if times[self.first] is None or times[self.second] is None:
            return True
        ticks = times[self.second] - times[self.first]
        if self.least is not None and ticks < self.least:
            return False
        return self.most is None or ticks <= self.most


class Nature:
    """Nature does the step `own` at least `lo` and at most `hi` ticks after the step `cause`."""

    def __init__(self, cause, own, lo, hi):
        self.cause = cause
        self.own = own
        self.lo = lo
        self.hi = hi

    def is_under_way(self, times):
        return times[self.cause] is not None and times[self.own] is None

    def may_move(self, times, tick):
        return self.is_under_way(times) and self.lo <= tick - times[self.cause] <= self.hi

    def must_move(self, times, tick):
        return self.is_under_way(times) and tick - times[self.cause] == self.hi


class Net:
    """Names are tuples of bytes; a step's number is its place among them."""

    def __init__(self):
        self.names = [START_NAME]
        self.limits = []
        self.natures = []

    def has_step(self, step):
        return 0 <= step < len(self.names)

    def has_nature(self, nature):
        return 0 <= nature < len(self.natures)

    def is_own(self, step):
        return any([nature.own == step for nature in self.natures])

    def our_steps(self):
        """The steps that we do, but start, which is done when a play begins."""
        return [step for step in range(1, len(self.names)) if not self.is_own(step)]

    def first_times(self):
        """The steps' times when a play begins: start is done, the others (None) aren't."""
        return [0 if step == 0 else None for step in range(len(self.names))]

    def are_limits_kept(self, times):
        return all([limit.is_kept(times) for limit in self.limits])

    def with_limit(self, limit):
        """Another net, with one limit more, however many there are."""
        net = Net()
        net.names = list(self.names)
        net.limits = self.limits + [limit]
        net.natures = list(self.natures)
        return net
