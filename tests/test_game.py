"""game: whether we can play so that all limits are kept and all steps are done by a tick, whatever nature does."""

import random
import unittest

from tests import reference
from tests.nets import likely_net, some_net
from tests.talk import BEGIN, PRINT, STATE, SURE, ask, game, net, text_of, tick

HUGE = 10 ** 18


class GameCase(unittest.TestCase):
    def check_soonest(self, text, soonest):
        """The least horizon that is long enough; None if none is."""
        with self.subTest(text=text):
            told = ask(net(text), *[game(h) for h in range(6)])[1:] + ask(net(text), *[game(h) for h in range(6, 9)])[1:]
            self.assertEqual(told, [[0, int(soonest is not None and h >= soonest)] for h in range(9)])


class WithoutNatures(GameCase):
    def test_start_alone(self):
        self.assertEqual(ask(game(0), game(8)), [[0, 1], [0, 1]])
        self.check_soonest("", 0)

    def test_steps(self):
        self.check_soonest("step a\n", 0)
        self.check_soonest("step a\nstep b\nstep c\nstep d\nstep e\n", 0)

    def test_limits(self):
        self.check_soonest("step a\nlimit start a 3 -\n", 3)
        self.check_soonest("step a\nlimit start a - 3\n", 0)
        self.check_soonest("step a\nlimit start a 8 8\n", 8)
        self.check_soonest("step a\nlimit start a 9 -\n", None)
        self.check_soonest("step a\nlimit start a - -\n", 0)
        self.check_soonest("step a\nstep b\nlimit a b 2 3\nlimit start b 5 -\n", 5)
        self.check_soonest("step a\nstep b\nlimit a b 2 3\nlimit start a 4 -\n", 6)
        self.check_soonest("step a\nstep b\nlimit a b 0 0\nlimit start a 1 1\n", 1)

    def test_limits_that_gainsay_one_another(self):
        self.check_soonest("step a\nlimit a start 1 -\n", None)
        self.check_soonest("step a\nstep b\nlimit a b 1 -\nlimit b a 0 -\n", None)
        self.check_soonest("step a\nstep b\nlimit a b 3 -\nlimit start b - 2\n", None)
        self.check_soonest("step a\nstep b\nlimit a b 1 2\nlimit a b 3 -\n", None)

    def test_the_longest_row(self):
        row = "step a\nstep b\nstep c\nstep d\nstep e\nlimit start a 1 2\nlimit a b 2 -\nlimit b c 1 -\nlimit c d 3 3\nlimit d e {} -\n"
        self.check_soonest(row.format(1), 8)
        self.check_soonest(row.format(2), None)


class WithNatures(GameCase):
    def test_nature_by_itself(self):
        self.check_soonest("step a\nnature start a 1 1\n", 1)
        self.check_soonest("step a\nnature start a 1 3\n", 3)
        self.check_soonest("step a\nnature start a 8 8\n", 8)
        self.check_soonest("step a\nnature start a 1 9\n", None)

    def test_limits_that_only_nature_can_break(self):
        self.check_soonest("step a\nnature start a 1 3\nlimit start a 1 3\n", 3)
        self.check_soonest("step a\nnature start a 1 3\nlimit start a 2 -\n", None)
        self.check_soonest("step a\nnature start a 1 3\nlimit start a - 2\n", None)
        self.check_soonest("step a\nstep b\nnature start a 1 3\nnature start b 1 3\nlimit a b 0 -\n", None)
        self.check_soonest("step a\nstep b\nnature start a 1 3\nnature start b 3 4\nlimit a b 0 -\n", 4)
        self.check_soonest("step a\nstep b\nnature start a 1 3\nnature start b 3 4\nlimit a b 1 -\n", None)

    def test_limits_that_nature_breaks_as_late_as_can_be(self):
        self.check_soonest("step a\nstep b\nnature start a 4 5\nnature start b 1 2\nlimit b a 2 4\n", 5)
        self.check_soonest("step a\nstep b\nnature start a 4 5\nnature start b 1 2\nlimit b a 3 4\n", None)
        self.check_soonest("step a\nstep b\nnature start a 4 5\nnature start b 1 2\nlimit b a 2 3\n", None)

    def test_a_step_behind_a_nature(self):
        # Nature moves first at each tick, so we can do a step at the very tick of nature's.
        self.check_soonest("step a\nstep b\nnature start a 1 3\nlimit a b 0 0\n", 3)
        self.check_soonest("step a\nstep b\nnature start a 1 3\nlimit a b 1 1\n", 4)
        self.check_soonest("step a\nstep b\nnature start a 1 3\nlimit a b 0 -\nlimit start b - 2\n", None)

    def test_a_step_ahead_of_a_nature(self):
        self.check_soonest("step a\nstep b\nnature start a 1 3\nlimit b a 1 1\n", None)
        self.check_soonest("step a\nstep b\nnature start a 1 3\nlimit b a 1 2\n", None)
        self.check_soonest("step a\nstep b\nnature start a 1 3\nlimit b a 1 3\n", 3)
        self.check_soonest("step a\nstep b\nnature start a 2 3\nlimit b a 1 2\n", 3)

    def test_natures_behind_our_steps(self):
        self.check_soonest("step a\nstep b\nstep c\nnature start a 1 2\nlimit a b 0 0\nnature b c 2 3\n", 5)
        self.check_soonest("step a\nstep b\nstep c\nnature start a 1 2\nlimit a b 1 -\nnature b c 2 3\nlimit a c - 4\n", 6)
        self.check_soonest("step a\nstep b\nstep c\nnature start a 1 2\nlimit a b 1 -\nnature b c 2 3\nlimit a c - 3\n", None)

    def test_natures_in_a_circle(self):
        self.check_soonest("step a\nstep b\nnature a b 1 2\nnature b a 1 2\n", None)

    def test_five_natures(self):
        steps = "step a\nstep b\nstep c\nstep d\nstep e\n"
        all_at_once = steps + "".join(f"nature start {name} 1 7\n" for name in "abcde")
        self.check_soonest(all_at_once, 7)
        self.check_soonest(all_at_once + "limit a b - 6\nlimit c d - 6\n", 7)
        self.check_soonest(all_at_once + "limit a b - 6\nlimit c d - 5\n", None)

    def test_horizon_of_zero(self):
        self.assertEqual(ask(net("step a\nstep b\nlimit a b 0 -\n"), game(0))[1], [0, 1])
        self.assertEqual(ask(net("step a\nstep b\nlimit a b 0 -\nlimit a b 1 -\n"), game(0))[1], [0, 0])
        self.assertEqual(ask(net("step a\nnature start a 1 1\n"), game(0))[1], [0, 0])


class Refusals(unittest.TestCase):
    SIX = "".join(f"step s{i}\n" for i in range(1, 6))
    SEVEN = SIX + "step s6\n"
    TWELVE = "".join(f"step s{i}\n" for i in range(1, 12))

    def test_horizon(self):
        for h in [-1, 9, 10, HUGE, -HUGE, HUGE - 1, 1 - HUGE]:
            self.assertEqual(ask(game(h), net(self.SIX), game(h)), [[-1], [0], [-1]])
        self.assertEqual(ask(net(self.SIX), game(0), game(8)), [[0], [0, 1], [0, 1]])

    def test_too_many_steps(self):
        for text in [self.SEVEN, self.TWELVE]:
            self.assertEqual(ask(net(text), game(0), game(5), game(8)), [[0], [-5], [-5], [-5]])

    def test_both(self):
        for h in [-1, 9, HUGE, -HUGE]:
            self.assertEqual(ask(net(self.SEVEN), game(h)), [[0], [-1]])

    def test_nothing_is_changed(self):
        text = "step a\nstep b\nnature start a 1 3\nlimit a b 0 0\n"
        told = ask(net(text), BEGIN, tick(1), STATE, PRINT, SURE, game(8), game(2), game(9), STATE, PRINT, SURE, tick())
        self.assertEqual(told[6:9], [[0, 1], [0, 0], [-1]])
        self.assertEqual(told[3:6], told[9:12])
        self.assertEqual(told[12], [0, 2, 0])


class Compared(unittest.TestCase):
    def check(self, some, h, kind):
        told = ask(net(text_of(*some)), game(h))[1]
        self.assertEqual(told, [0, int(kind(*some, h).can_be_won())], (some, h))
        return told[1]

    def test_every_play_without_looking_ahead(self):
        chance = random.Random(41)
        won = 0
        for _ in range(250):
            steps = chance.randint(2, 4)
            won += self.check(likely_net(chance, steps, chance.randint(0, steps - 1), 4, 3), chance.randint(0, 4), reference.PlainGame)
            won += self.check(some_net(chance, 4, 2, 3, 3), chance.randint(0, 4), reference.PlainGame)
        self.assertTrue(100 < won < 400, won)

    def test_up_to_six_steps(self):
        chance = random.Random(42)
        won = 0
        for _ in range(150):
            steps = chance.randint(4, 6)
            natures = chance.randint(1, 3)
            won += self.check(likely_net(chance, steps, natures, 8, 3), chance.randint(2, 5), reference.Game)
        self.assertTrue(30 < won < 120, won)


class Promise1(unittest.TestCase):
    """A net is surely kept just if we can play so that all limits are kept whatever nature does."""

    def test_surely_kept_with_all_steps_by_the_horizon(self):
        chance = random.Random(43)
        seen = {0: 0, 1: 0}
        for _ in range(600):
            steps = chance.randint(2, 6)
            likely = likely_net(chance, steps, chance.randint(0, steps - 1), chance.choice([2, 5, 12]), chance.choice([2, 4, 6]))
            for size, limits, natures in [likely, some_net(chance, 6, 3, 4, 4)]:
                h = chance.randint(0, 8)
                by_then = [(0, i, None, h) for i in range(1, size)]
                told = ask(net(text_of(size, limits, natures)), game(h), net(text_of(size, limits + by_then, natures)), SURE)
                self.assertEqual(told[1], told[3][:2], (size, limits, natures, h))
                seen[told[1][1]] += 1
        self.assertGreater(min(seen.values()), 300)

    def test_a_horizon_that_is_long_enough(self):
        # No play needs more ticks than all the net's numbers added.
        chance = random.Random(44)
        seen = {0: 0, 1: 0}
        while min(seen.values()) < 50:
            some = likely_net(chance, chance.randint(3, 5), chance.randint(1, 2), 3, 2)
            if sum(max(row[2] or 0, row[3] or 0) for row in some[1] + some[2]) <= 8:
                told = ask(net(text_of(*some)), game(8), SURE)
                self.assertEqual(told[1], told[2][:2], some)
                seen[told[1][1]] += 1


if __name__ == "__main__":
    unittest.main()
