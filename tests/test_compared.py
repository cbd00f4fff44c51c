"""Nets made by chance, compared with the second reckoning in reference.py."""

import random
import unittest

from tests import reference
from tests.nets import likely_net, some_net
from tests.talk import SURE, WEAK, ask, bound, far, net, text_of, wait


def number(w):
    return [0, 0] if w == reference.NONE else [0, 1, w]


class Compared(unittest.TestCase):
    def compare(self, steps, limits, natures):
        pairs = [(i, j) for i in range(steps) for j in range(steps) if i != j]
        held = [(k, i) for k in range(len(natures)) for i in range(steps)]
        laid = [far(i, j) for i, j in pairs] + [bound(i, j) for i, j in pairs] + [wait(k, i) for k, i in held]
        told = ask(net(text_of(steps, limits, natures)), WEAK, SURE, *laid)
        expected = [[0], [0, 0], [0, 0]] + [[-3]] * len(laid)
        if reference.weak(steps, limits, natures):
            shut = reference.close(steps, reference.told(steps, limits, natures))
            expected[1] = [0, 1]
            expected[3:3 + len(pairs)] = [number(shut[i, j]) for i, j in pairs]
        found = reference.reduced(steps, limits, natures)
        if found is not None:
            earlier, bounds, waits = found
            expected[2] = [0, 1, earlier]
            expected[3 + len(pairs):] = [number(bounds[i, j]) for i, j in pairs] + [number(waits[k, i]) for k, i in held]
        self.assertEqual(told, expected, (steps, limits, natures))
        return found

    def test_any_nets(self):
        chance = random.Random(2)
        for _ in range(200):
            self.compare(*some_net(chance, 6, 3, 4, 9))

    def test_likely_nets(self):
        chance = random.Random(3)
        rounds = {}
        for _ in range(400):
            steps = chance.randint(4, 9)
            found = self.compare(*likely_net(chance, steps, chance.randint(1, min(5, steps - 1)), 6, 20))
            key = None if found is None else found[0]
            rounds[key] = rounds.get(key, 0) + 1
        self.assertTrue({None, 1, 2, 3} <= set(rounds), rounds)

    def test_largest_nets(self):
        chance = random.Random(4)
        for _ in range(20):
            self.compare(*likely_net(chance, 12, 5, 40, 100))


class Promise1(unittest.TestCase):
    """A net is surely kept just if we can play so that all limits are kept whatever nature does."""

    def test_small_nets(self):
        chance = random.Random(5)
        seen = {0: 0, 1: 0}
        for _ in range(250):
            small = likely_net(chance, chance.randint(3, 4), chance.randint(1, 2), 4, 3)
            told = ask(net(text_of(*small)), SURE)[1]
            self.assertEqual(told[1] == 1, reference.Game(*small).can_be_won(), small)
            seen[told[1]] += 1
        self.assertGreater(min(seen.values()), 25)

    def test_small_nets_of_any_kind(self):
        chance = random.Random(6)
        for _ in range(250):
            small = some_net(chance, 4, 3, 3, 2)
            told = ask(net(text_of(*small)), SURE)[1]
            self.assertEqual(told[1] == 1, reference.Game(*small).can_be_won(), small)


if __name__ == "__main__":
    unittest.main()
