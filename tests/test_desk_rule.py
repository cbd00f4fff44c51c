"""Which steps the desk does, word by word, by forms made by hand.

A reduced form is closed, so that what holds one step back mostly holds back those that need it too. Here the forms
aren't closed, so that each part of the rule stands by itself.
"""

import unittest

from steptimes.forms import Form
from steptimes.nets import Nature, Net
from steptimes.playing import Play


def play(steps, natures, bounds, waits, tick, times):
    """Bounds and waits as dicts, where what is missing is none; times as a dict, where what is missing isn't done."""
    net = Net()
    net.names = [(97, 97 + i) for i in range(steps)]
    net.natures = [Nature(*row) for row in natures]
    bound_rows = [[0 if i == j else bounds.get((i, j)) for j in range(steps)] for i in range(steps)]
    wait_rows = [[waits.get((k, i)) for i in range(steps)] for k in range(len(natures))]
    made = Play(net, Form(bound_rows, wait_rows))
    made.tick = tick
    made.times = [times.get(i) for i in range(steps)]
    return made


class Bounds(unittest.TestCase):
    def check(self, bounds, tick, times, done, steps=4, natures=()):
        self.assertEqual(play(steps, natures, bounds, {}, tick, times).doable_steps(), done)

    def test_none_and_above_zero(self):
        self.check({}, 0, {0: 0}, [1, 2, 3])
        self.check({(1, 2): 1, (2, 3): 7}, 0, {0: 0}, [1, 2, 3])
        self.check({(1, 2): 1}, 0, {0: 0}, [1, 3], natures=[(0, 2, 1, 2)])

    def test_below_zero_to_a_step_that_is_done(self):
        for tick, done in [(4, [3]), (5, [3]), (6, [1, 3]), (7, [1, 3])]:
            self.check({(1, 2): -3}, tick, {0: 0, 2: 3}, done)

    def test_zero_to_a_step_that_is_done(self):
        self.check({(1, 2): 0}, 3, {0: 0, 2: 3}, [1, 3])
        self.check({(1, 2): 0}, 2, {0: 0, 2: 3}, [3])

    def test_zero_to_a_step_that_is_done_too(self):
        self.check({(1, 2): 0}, 0, {0: 0}, [1, 2, 3])
        self.check({(1, 2): 0, (2, 1): 0}, 0, {0: 0}, [1, 2, 3])

    def test_zero_to_a_step_of_natures(self):
        self.check({(1, 2): 0}, 1, {0: 0}, [3], natures=[(0, 2, 1, 2)])
        self.check({(1, 2): 0}, 1, {0: 0, 2: 1}, [1, 3], natures=[(0, 2, 1, 2)])

    def test_below_zero_to_a_step_that_is_not_done(self):
        self.check({(1, 2): -1}, 9, {0: 0}, [2, 3])
        self.check({(1, 2): -1, (2, 1): 0}, 9, {0: 0}, [3])

    def test_again_and_again(self):
        for row in [(1, 2, 3), (3, 2, 1), (2, 1, 3), (1, 3, 2)]:
            bounds = {(row[0], row[1]): 0, (row[1], row[2]): 0, (row[2], 0): -5}
            self.check(bounds, 4, {0: 0}, [])
            self.check(bounds, 5, {0: 0}, [1, 2, 3])

    def test_each_bound_counts(self):
        bounds = {(1, 0): -2, (1, 2): -4, (1, 3): 0}
        self.check(bounds, 5, {0: 0, 2: 1, 3: 5}, [1])
        self.check(bounds, 4, {0: 0, 2: 1, 3: 0}, [])
        self.check(bounds, 5, {0: 0, 2: 1}, [1, 3])
        self.check(bounds, 5, {0: 4, 2: 1}, [3])

    def test_done_steps_are_not_done_again(self):
        self.check({}, 3, {0: 0, 1: 2, 3: 3}, [2])
        self.check({}, 3, {0: 0, 1: 2, 2: 2, 3: 3}, [])


class Waits(unittest.TestCase):
    def check(self, waits, tick, times, done, natures=((0, 1, 1, 9),)):
        self.assertEqual(play(4, natures, {}, waits, tick, times).doable_steps(), done)

    def test_none_zero_and_above(self):
        for wait in [None, 0, 1, 5]:
            self.check({(0, 2): wait}, 0, {0: 0}, [2, 3])

    def test_below_zero(self):
        for wait, since, over in [(-1, 0, 1), (-4, 0, 4), (-4, 3, 7)]:
            self.check({(0, 2): wait}, over - 1, {0: since}, [3])
            self.check({(0, 2): wait}, over, {0: since}, [2, 3])

    def test_the_own_step_is_done(self):
        self.check({(0, 2): -4}, 1, {0: 0, 1: 1}, [2, 3])

    def test_the_nature_is_not_begun(self):
        later = [(3, 1, 1, 9)]
        self.check({(0, 2): -4, (0, 3): -1}, 100, {0: 0}, [], natures=later)
        self.check({(0, 2): -4}, 8, {0: 0, 3: 5}, [], natures=later)
        self.check({(0, 2): -4}, 9, {0: 0, 3: 5}, [2], natures=later)

    def test_each_nature_counts(self):
        two = [(0, 1, 1, 9), (0, 3, 1, 9)]
        waits = {(0, 2): -3, (1, 2): -6}
        self.check(waits, 5, {0: 0}, [], natures=two)
        self.check(waits, 6, {0: 0}, [2], natures=two)
        self.check(waits, 2, {0: 0, 1: 2}, [], natures=two)
        self.check(waits, 2, {0: 0, 3: 2}, [], natures=two)
        self.check(waits, 3, {0: 0, 3: 2}, [2], natures=two)
        self.check(waits, 2, {0: 0, 1: 2, 3: 1}, [2], natures=two)


if __name__ == "__main__":
    unittest.main()
