"""A second reckoning of what the program tells, written apart from it: slow, and word by word.

A net is (steps, limits, natures) as in talk.text_of; bounds and waits lie in dicts, and none is an endless number.
"""

import itertools
import math

NONE = math.inf


def told(steps, limits, natures):
    found = {}
    for i, j in itertools.product(range(steps), repeat=2):
        numbers = [NONE]
        if i == j or j == 0:
            numbers.append(0)
        numbers += [most for a, b, least, most in limits if (a, b) == (i, j) and most is not None]
        numbers += [-least for a, b, least, most in limits if (b, a) == (i, j) and least is not None]
        numbers += [hi for a, c, lo, hi in natures if (a, c) == (i, j)]
        numbers += [-lo for a, c, lo, hi in natures if (c, a) == (i, j)]
        found[i, j] = min(numbers)
    return found


def close(steps, bounds):
    for m in range(steps):
        bounds = {(i, j): min(w, bounds[i, m] + bounds[m, j]) for (i, j), w in bounds.items()}
    return bounds


def ring(steps, bounds):
    shut = close(steps, bounds)
    return any(shut[i, i] < 0 for i in range(steps))


def weak(steps, limits, natures):
    return not ring(steps, told(steps, limits, natures))


def longest(steps, natures, form):
    bounds, waits = form
    return {
        (i, j): min([w] + [waits[k, i] for k, (a, c, lo, hi) in enumerate(natures) if a == j])
        for (i, j), w in bounds.items()
    }


def next_form(steps, natures, form):
    shut = close(steps, form[0])
    held = {}
    for k, (a, c, lo, hi) in enumerate(natures):
        for i in range(steps):
            held[k, i] = NONE if i == a else min(shut[i, j] + form[1][k, j] for j in range(steps))
    bounds = dict(shut)
    waits = dict(held)
    for x, (a, c, lo, hi) in enumerate(natures):
        for j in range(steps):
            if j != c and shut[c, j] < 0:
                bounds[a, j] = min(bounds[a, j], lo + shut[c, j])
        for k in range(len(natures)):
            if k != x and held[k, c] < 0:
                waits[k, a] = min(waits[k, a], lo + held[k, c])
    for k, (a, c, lo, hi) in enumerate(natures):
        for i in range(steps):
            if i not in (a, c):
                bounds[i, a] = min(bounds[i, a], max(waits[k, i], -lo))
    return bounds, waits


def reduced(steps, limits, natures):
    """How many forms came before the reduced one, its bounds and its waits; None if not surely kept."""
    waits = {}
    for k, (a, c, lo, hi) in enumerate(natures):
        for i in range(steps):
            waits[k, i] = -hi if i == c else NONE
    form = (told(steps, limits, natures), waits)
    for earlier in range(60):
        if ring(steps, longest(steps, natures, form)):
            return None
        following = next_form(steps, natures, form)
        if following == form:
            return earlier, form[0], form[1]
        form = following
    return None


def sure_with(steps, limits, natures, i, j, w):
    """If the net is surely kept with one limit more: j at most w after i."""
    limit = (i, j, None, w) if w >= 0 else (j, i, -w, None)
    return reduced(steps, limits + [limit], natures) is not None


def nature_moves(natures, times, tick):
    """The steps that nature may do at the tick, and those that it must."""
    due = [row for row in natures if times[row[1]] is None and times[row[0]] is not None]
    may = [c for a, c, lo, hi in due if times[a] + lo <= tick <= times[a] + hi]
    must = [c for a, c, lo, hi in due if tick >= times[a] + hi]
    return may, must


def broken(limits, times):
    """Which limits between steps that are done aren't kept."""
    found = []
    for a, b, least, most in limits:
        if times[a] is not None and times[b] is not None:
            low = -NONE if least is None else least
            high = NONE if most is None else most
            if not low <= times[b] - times[a] <= high:
                found.append((a, b, least, most))
    return found


def desk_does(steps, natures, bounds, waits, times, tick):
    """What the desk does at the tick: steps are taken away one at a time."""
    owns = [c for a, c, lo, hi in natures]
    left = {p for p in range(steps) if p not in owns and times[p] is None}

    def can(p):
        for j in range(steps):
            w = bounds[p, j]
            if j == p or w > 0:
                continue
            if times[j] is None and not (w == 0 and j in left):
                return False
            if times[j] is not None and tick < times[j] - w:
                return False
        for k, (a, c, lo, hi) in enumerate(natures):
            w = waits[k, p]
            if w < 0 and times[c] is None and (times[a] is None or tick < times[a] - w):
                return False
        return True

    while not all(can(p) for p in left):
        left.remove(next(p for p in left if not can(p)))
    return sorted(left)


class Game:
    """Whether we can keep all limits and do all steps whatever nature does, by trying every play.

    The last tick is told, or it is one that no play needs to go beyond.
    """

    def __init__(self, steps, limits, natures, last=None):
        self.limits = limits
        self.natures = natures
        self.ours = [i for i in range(1, steps) if i not in [c for a, c, lo, hi in natures]]
        self.last = sum(max(least or 0, most or 0) for a, b, least, most in limits) + sum(row[3] for row in natures)
        if last is not None:
            self.last = last
        self.seen = {}
        self.begin = (0,) + (None,) * (steps - 1)

    def can_be_won(self):
        return self.we_win(0, self.begin)

    def spoilt(self, tick, times):
        for a, b, least, most in self.limits:
            late_b = tick if times[b] is None else times[b]
            if most is not None and times[a] is not None and late_b - times[a] > most:
                return True
            late_a = tick if times[a] is None else times[a]
            if least is not None and times[b] is not None and times[b] - late_a < least:
                return True
        return False

    def we_win(self, tick, times):
        if (tick, times) not in self.seen:
            left = [i for i in self.ours if times[i] is None]
            self.seen[tick, times] = not self.spoilt(tick, times) and any(
                self.nature_fails(tick + 1, done(times, some, tick)) for some in subsets(left)
            )
        return self.seen[tick, times]

    def nature_fails(self, tick, times):
        if self.spoilt(tick - 1, times):
            return False
        if None not in times:
            return True
        if tick > self.last:
            return False
        may, must = nature_moves(self.natures, times, tick)
        free = [c for c in may if c not in must]
        return all(self.we_win(tick, done(times, must + list(some), tick)) for some in subsets(free))


class PlainGame(Game):
    """The same without looking ahead: a limit is spoilt when both its steps are done and it's broken."""

    def spoilt(self, tick, times):
        return bool(broken(self.limits, times))


def subsets(steps):
    return [some for size in range(len(steps) + 1) for some in itertools.combinations(steps, size)]


def done(times, steps, tick):
    return tuple(tick if i in steps else time for i, time in enumerate(times))
