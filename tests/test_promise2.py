"""The desk keeps all limits whatever nature does, and comes to an end."""

import copy
import random
import unittest

from tests import reference
from tests.model import Model
from tests.nets import likely_net
from tests.talk import BEGIN, KEPT, STATE, ask, idle, net, text_of, tick

KEPT_SO_FAR = [0, 0, 1]
KEPT_TO_THE_END = [0, 1, 1]


def early(chance, may, must):
    return may


def late(chance, may, must):
    return must


def between(chance, may, must):
    return [c for c in may if c in must or chance.random() < 0.3]


def sure_net(chance, most_steps, most_natures, most_limits, most_ticks, least_natures=0):
    while True:
        steps = chance.randint(2 + least_natures, most_steps)
        natures = chance.randint(least_natures, min(most_natures, steps - 1))
        some = likely_net(chance, steps, natures, most_limits, most_ticks)
        if reference.reduced(*some) is not None:
            return some


def begun(some):
    model = Model()
    model.take_net(*some)
    model.begin()
    return model


def whole_play(some, chance, nature):
    """What nature does, tick by tick, till all is done."""
    model = begun(some)
    moves = []
    while None in model.times:
        moves.append(nature(chance, *reference.nature_moves(model.natures, model.times, model.now + 1)))
        model.pass_tick(moves[-1])
    return moves


def all_plays(some):
    """All that nature can do, tick by tick, in each way in which the play can go."""
    plays = []
    ways = [([], begun(some))]
    while ways:
        moves, model = ways.pop()
        if None not in model.times:
            plays.append(moves)
            continue
        may, must = reference.nature_moves(model.natures, model.times, model.now + 1)
        for picked in reference.subsets([c for c in may if c not in must]):
            following = copy.copy(model)
            following.times = list(model.times)
            following.pass_tick(must + list(picked))
            ways.append((moves + [must + list(picked)], following))
    return plays


class Promise2(unittest.TestCase):
    def check_play(self, some, moves):
        calls = [BEGIN, KEPT]
        for c in moves:
            calls += [tick(*c), KEPT, STATE]
        told = ask(net(text_of(*some)), *calls)
        kept = told[2:3] + told[4::3]
        expected = [KEPT_SO_FAR] * len(moves) + [KEPT_TO_THE_END]
        self.assertEqual(kept, expected, (some, moves))
        self.check_told(some[1], told, len(moves))

    def check_told(self, limits, told, ticks):
        """The times that state tells at the end keep all limits, and what was told at each tick is among them."""
        if ticks == 0:
            return
        times = told[-1][2:]
        self.assertEqual(reference.broken(limits, times), [])
        self.assertEqual(told[1][2:], sorted(told[1][2:]))
        for answer in told[3::3]:
            self.assertEqual(answer[3:], sorted(answer[3:]))
            self.assertTrue(all(times[step] == answer[1] for step in answer[3:]))

    def test_nature_early_late_and_in_between(self):
        chance = random.Random(51)
        for _ in range(120):
            some = sure_net(chance, 9, 4, 8, 9)
            for nature in [early, late, between, between]:
                self.check_play(some, whole_play(some, chance, nature))

    def test_largest_nets(self):
        chance = random.Random(52)
        for _ in range(12):
            some = sure_net(chance, 12, 5, 30, 12)
            for nature in [early, late, between]:
                self.check_play(some, whole_play(some, chance, nature))

    def test_all_that_nature_can_do(self):
        chance = random.Random(53)
        seen = 0
        for _ in range(300):
            some = sure_net(chance, 6, 3, 3, 4, least_natures=2)
            for moves in all_plays(some):
                self.check_play(some, moves)
                seen += 1
        self.assertGreater(seen, 700)

    def test_idle_where_nature_is_late(self):
        # idle to where nature must move, then tick with what it must do, over and over.
        chance = random.Random(54)
        for _ in range(60):
            some = sure_net(chance, 8, 4, 6, 40)
            model = begun(some)
            calls = []
            while None in model.times:
                calls.append(idle(300))
                if model.idle(300)[2] == 0:
                    must = reference.nature_moves(model.natures, model.times, model.now + 1)[1]
                    calls.append(tick(*must))
                    model.pass_tick(must)
            told = ask(net(text_of(*some)), BEGIN, *calls, KEPT, STATE)
            self.assertEqual(told[-2:], [KEPT_TO_THE_END, model.state()])


if __name__ == "__main__":
    unittest.main()
