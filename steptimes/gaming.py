"""The game: whether we can keep all limits and do all steps by a tick whatever nature does, by trying the plays."""

from steptimes.bounding import limit_bounds


def can_be_won(net, horizon):
    return Game(net, horizon).do_we_win(0, net.first_times())


def choices(steps):
    """All lists of some of the steps, the whole one first."""
    found = [[]]
    for step in steps:
        found = [some + [step] for some in found] + found
    return found


def times_with(times, steps, tick):
    """The times where the steps are done too, at the tick."""
    return [tick if step in steps else time for step, time in enumerate(times)]


class Game:
    """Plays in which all steps are to be done by the horizon; times as in a play (None: not done).

    A window is the first and the last tick of those at which something can be.
    """

    def __init__(self, net, horizon):
        self.net = net
        self.horizon = horizon
        self.ours = net.our_steps()
        self.limit_rows = limit_bounds(net)
        # Whether we win, by the tick and the prospect behind it: plays that differ only in what
        # no longer matters are gone through once.
        self.known = {}

    def do_we_win(self, tick, times):
        """If one of our moves at this tick wins, whatever nature does later."""
        left = [step for step in self.ours if times[step] is None and self.keeps_limits(step, tick, times)]
        for steps in choices(left):
            if self.does_nature_lose(tick, times_with(times, steps, tick)):
                return True
        return False

    def does_nature_lose(self, tick, times):
        """If we win behind our move at this tick, whatever nature does later."""
        prospect = self.look_ahead(tick, times)
        if prospect is None:
            return False
        if None not in times:
            return True
        key = (tick, tuple(prospect))
        if key not in self.known:
            self.known[key] = self.do_moves_lose(tick + 1, times)
        return self.known[key]

    def do_moves_lose(self, tick, times):
        """If each of nature's moves at this tick leaves us one that wins."""
        must = [nature.own for nature in self.net.natures if nature.must_move(times, tick)]
        may = [nature.own for nature in self.net.natures if nature.may_move(times, tick)]
        for steps in choices([step for step in may if step not in must]):
            if not self.do_we_win(tick, times_with(times, must + steps, tick)):
                return False
        return True

    def look_ahead(self, tick, times):
        """For each step not done when it can be, behind our move at this tick; None if it's seen that we lose."""
        windows = []
        for step, time in enumerate(times):
            kept = self.kept_window(step, times)
            coming = self.coming_window(step, kept, tick, times)
            # Nature may choose any tick of its window, so one that breaks a limit is one too many.
            if coming[0] > coming[1] or coming[0] < kept[0] or coming[1] > kept[1]:
                return None
            windows.append(coming if time is None else ())
        return windows

    def kept_window(self, step, times):
        """When the step keeps its limits with the other steps that are done."""
        first = 0
        last = self.horizon
        for other, time in enumerate(times):
            if other != step and time is not None:
                behind = self.limit_rows[step][other]
                ahead = self.limit_rows[other][step]
                first = first if behind is None else max(first, time - behind)
                last = last if ahead is None else min(last, time + ahead)
        return (first, last)

    def keeps_limits(self, step, tick, times):
        kept = self.kept_window(step, times)
        return kept[0] <= tick <= kept[1]

    def coming_window(self, step, kept, tick, times):
        """When the step was done, or can be behind this tick: by nature in any case, by us to keep limits."""
        if times[step] is not None:
            return (times[step], times[step])
        for nature in self.net.natures:
            if nature.own == step and nature.is_under_way(times):
                since = times[nature.cause]
                return (max(since + nature.lo, tick + 1), since + nature.hi)
        return (max(kept[0], tick + 1), kept[1])
