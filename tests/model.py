"""One object as the second reckoning sees it: its answers to the calls 3 to 15, refusals too, laid as in talk.py.

A net is handed to it by take_net, as (steps, limits, natures).
"""

from tests import reference


def number(w):
    return [0, 0] if w == reference.NONE else [0, 1, w]


class Model:
    def __init__(self):
        self.take_net(1, [], [])

    def take_net(self, steps, limits, natures):
        self.steps, self.limits, self.natures = steps, limits, natures
        self.found = reference.reduced(steps, limits, natures)
        self.times = None
        return [0]

    def answer(self, call):
        ways = {3: self.weak, 4: self.sure, 5: self.bound, 6: self.wait, 7: self.far, 8: self.tightest, 9: self.game,
                10: self.begin, 11: self.pass_tick, 12: self.idle, 13: self.state, 14: self.kept, 15: self.iflimit}
        handed = [call[2:]] if call[0] == 11 else call[1:]
        return ways[call[0]](*handed)

    def refusal(self, *pair):
        if any(i not in range(self.steps) for i in pair):
            return -1
        return -2 if pair[0] == pair[1] else None

    def weak(self):
        return [0, int(reference.weak(self.steps, self.limits, self.natures))]

    def sure(self):
        return [0, 0] if self.found is None else [0, 1, self.found[0]]

    def bound(self, i, j):
        if self.refusal(i, j):
            return [self.refusal(i, j)]
        return [-3] if self.found is None else number(self.found[1][i, j])

    def wait(self, k, i):
        if k not in range(len(self.natures)) or i not in range(self.steps):
            return [-1]
        return [-3] if self.found is None else number(self.found[2][k, i])

    def far(self, i, j):
        if self.refusal(i, j):
            return [self.refusal(i, j)]
        if self.weak() == [0, 0]:
            return [-3]
        return number(reference.close(self.steps, reference.told(self.steps, self.limits, self.natures))[i, j])

    def sure_with(self, i, j, w):
        return reference.sure_with(self.steps, self.limits, self.natures, i, j, w)

    def tightest(self, i, j):
        if self.refusal(i, j):
            return [self.refusal(i, j)]
        if self.found is None:
            return [-3]
        # One by one, from a number on that is beyond all the net's own added, if the least of all isn't kept.
        if self.sure_with(i, j, -12000):
            return [0, 1, -12000]
        beyond = -1 - sum(max(row[2] or 0, row[3] or 0) for row in self.limits + self.natures)
        return [0, 1, next(w for w in range(beyond, 12001) if self.sure_with(i, j, w))]

    def game(self, h):
        if h not in range(9):
            return [-1]
        if self.steps > 6:
            return [-5]
        return [0, int(reference.Game(self.steps, self.limits, self.natures, h).can_be_won())]

    def iflimit(self, i, j, w):
        if self.refusal(i, j):
            return [self.refusal(i, j)]
        return [-1] if abs(w) > 12000 else [0, int(self.sure_with(i, j, w))]

    def move(self):
        done = reference.desk_does(self.steps, self.natures, self.found[1], self.found[2], self.times, self.now)
        for i in done:
            self.times[i] = self.now
        return [len(done)] + done

    def begin(self):
        if self.found is None:
            return [-3]
        self.now, self.times = 0, [0] + [None] * (self.steps - 1)
        return [0] + self.move()

    def pass_tick(self, c):
        if self.times is None:
            return [-4]
        if any(i not in range(self.steps) for i in c):
            return [-1]
        may, must = reference.nature_moves(self.natures, self.times, self.now + 1)
        if set(c) - set(may) or set(must) - set(c):
            return [-6]
        self.now += 1
        for i in c:
            self.times[i] = self.now
        return [0, self.now] + self.move()

    def idle(self, m):
        if self.times is None:
            return [-4]
        if m not in range(1, 301):
            return [-1]
        told = [0, self.now, 0]
        for _ in range(m):
            following = self.pass_tick([])
            if following == [-6]:
                return told
            told = following
            if told[2] > 0:
                return told
        return told

    def state(self):
        if self.times is None:
            return [-4]
        return [0, self.now] + [-1 if time is None else time for time in self.times]

    def kept(self):
        if self.times is None:
            return [-4]
        return [0, int(None not in self.times), int(not reference.broken(self.limits, self.times))]
