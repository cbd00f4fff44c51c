"""tightest and iflimit: one limit more."""

import random
import unittest
from unittest import mock

from steptimes import tightening
from tests import reference
from tests.nets import likely_net
from tests.talk import BEGIN, KEPT, PRINT, STATE, STEPS, SURE, WEAK, ask, bound, iflimit, net, text_of, tick, tightest

HUGE = 10 ** 18
NO_STEPS_OF_THREE = [-1, 3, 12, HUGE, -HUGE]
SURE_NET = "step a\nstep b\nnature start a 1 3\nlimit a b 0 4\n"
NOT_SURE_NET = "step a\nstep b\nnature start a 1 3\nlimit b a 1 1\n"
YES = [0, 1]
NO = [0, 0]


def chain_text(words, steps=12):
    """Steps in a row, each with the same words behind the one before it."""
    names = ["start"] + [f"s{i}" for i in range(1, steps)]
    lines = [f"step {name}" for name in names[1:]]
    lines += [f"limit {a} {b} {words}" for a, b in zip(names, names[1:])]
    return "".join(line + "\n" for line in lines)


class OneMoreCase(unittest.TestCase):
    def check(self, text, i, j, w):
        """tightest tells w; iflimit agrees at w, round it and far from it, and nothing is changed."""
        with self.subTest(text=text, i=i, j=j):
            others = [v for v in [w - 1, w + 1, -12000, 12000, 0, -1, 1] if -12000 <= v <= 12000]
            looks = [PRINT, SURE, bound(i, j)]
            asked = [tightest(i, j), iflimit(i, j, w)] + [iflimit(i, j, v) for v in others]
            told = ask(net(text), *looks, *asked, *looks)
            self.assertEqual(told[4], [0, 1, w])
            self.assertEqual(told[5], YES)
            self.assertEqual(told[6:-3], [YES if v >= w else NO for v in others])
            self.assertEqual(told[1:4], told[-3:])


class Tightest(OneMoreCase):
    def test_no_limits(self):
        # What may come as late as we like can be had as late as can be told; nothing comes before start.
        self.check("step a\n", 0, 1, 0)
        self.check("step a\n", 1, 0, -12000)
        self.check("step a\nstep b\n", 1, 2, -12000)

    def test_limits(self):
        self.check("step a\nlimit start a 3 7\n", 0, 1, 3)
        self.check("step a\nlimit start a 3 7\n", 1, 0, -7)
        self.check("step a\nlimit start a 3 -\n", 0, 1, 3)
        self.check("step a\nlimit start a - 0\n", 1, 0, 0)
        self.check("step a\nstep b\nlimit start a 2 5\nlimit a b 1 3\n", 0, 2, 3)
        self.check("step a\nstep b\nlimit start a 2 5\nlimit a b 1 3\n", 2, 0, -8)
        self.check("step a\nstep b\nlimit start a 2 5\nlimit a b 1 3\n", 1, 2, 1)

    def test_a_nature_by_itself(self):
        self.check("step a\nnature start a 2 7\n", 0, 1, 7)
        self.check("step a\nnature start a 2 7\n", 1, 0, -2)
        self.check("step a\nstep b\nnature a b 2 7\n", 1, 2, 7)
        self.check("step a\nstep b\nnature a b 2 7\n", 0, 2, 7)
        self.check("step a\nstep b\nnature a b 2 7\n", 2, 0, -12000)

    def test_behind_a_nature(self):
        # b is done when a is, at once: no sooner, for it can't be foreseen; 7 behind start at the latest.
        text = "step a\nstep b\nnature start a 2 7\nlimit a b 0 -\n"
        self.check(text, 1, 2, 0)
        self.check(text, 0, 2, 7)
        self.check(text, 2, 0, -12000)

    def test_ahead_of_a_nature(self):
        # b is to be done by tick 1, before a may come at 2; then a may come as late as 7.
        text = "step a\nstep b\nnature start a 2 7\nlimit b a 1 -\n"
        self.check(text, 2, 1, 6)
        self.check(text, 1, 2, -2)
        self.check(text, 0, 2, 0)
        self.check(text, 2, 0, -1)

    def test_together_with_a_nature(self):
        # Where b needn't be ahead of a it can be done when a is, at the same tick.
        text = "step a\nstep b\nnature start a 2 7\nlimit b a 0 -\n"
        self.check(text, 2, 1, 0)
        self.check(text, 2, 0, -2)

    def test_farthest(self):
        self.check(chain_text("1000 1000"), 0, 11, 11000)
        self.check(chain_text("1000 1000"), 11, 0, -11000)
        self.check(chain_text("1000 -"), 0, 11, 11000)
        self.check(chain_text("1000 -"), 11, 0, -12000)
        self.check(chain_text("- 1000"), 11, 0, -11000)

    def test_forty_limits_already(self):
        text = "step a\nstep b\n" + "limit a b 1 20\n" * 39 + "limit start a 2 9\n"
        self.assertEqual(ask(net(text), net(text + "limit a b 1 2\n"))[1], [1, 43, 4])
        self.check(text, 1, 2, 1)
        self.check(text, 2, 1, -20)
        self.check(text, 0, 2, 3)
        self.check(text, 2, 0, -29)

    def test_none(self):
        # All steps of a surely kept net can be done by tick 11000, so 12000 is always enough; lesser ends show the rest.
        text = "step a\nlimit start a 3 7\n"
        for most, answer in [(2, [0, 0]), (3, [0, 1, 3]), (4, [0, 1, 3])]:
            with mock.patch.object(tightening, "MOST_MORE", most):
                self.assertEqual(ask(net(text), tightest(0, 1)), [[0], answer])
        with mock.patch.object(tightening, "MOST_MORE", -8):
            self.assertEqual(ask(net(text), tightest(1, 0), PRINT, SURE),
                             [[0], [0, 0], [0, len(text)] + list(text.encode()), [0, 1, 0]])

    def test_the_least_of_all(self):
        for least in [-12000, -7, -8, -6]:
            with mock.patch.object(tightening, "LEAST_MORE", least):
                self.assertEqual(ask(net("step a\nlimit start a 3 7\n"), tightest(1, 0))[1], [0, 1, max(least, -7)])

    def test_refusals(self):
        for text in [SURE_NET, NOT_SURE_NET]:
            for i in NO_STEPS_OF_THREE:
                self.assertEqual(ask(net(text), tightest(i, 0), tightest(0, i), tightest(i, i)), [[0]] + [[-1]] * 3)
            for i in range(3):
                self.assertEqual(ask(net(text), tightest(i, i)), [[0], [-2]])
        self.assertEqual(ask(net(NOT_SURE_NET), tightest(0, 1), tightest(2, 1)), [[0], [-3], [-3]])
        self.assertEqual(ask(tightest(0, 0), tightest(0, 1)), [[-2], [-1]])


class IfLimit(OneMoreCase):
    def check_if(self, text, i, j, answers):
        told = ask(net(text), *[iflimit(i, j, w) for w in answers])
        self.assertEqual(told[1:], [[0, answer] for answer in answers.values()])

    def test_below_zero_at_zero_and_above(self):
        text = "step a\nstep b\nlimit start a 2 2\nlimit start b 2 2\n"
        self.check_if(text, 1, 2, {-1: 0, 0: 1, 1: 1})
        text = "step a\nstep b\nlimit start a 5 5\nlimit start b 2 2\n"
        self.check_if(text, 1, 2, {-4: 0, -3: 1, -2: 1, 0: 1, 3: 1})
        self.check_if(text, 2, 1, {-3: 0, 0: 0, 2: 0, 3: 1, 4: 1})

    def test_ends(self):
        self.check_if("step a\n", 1, 0, {-12000: 1, 12000: 1})
        self.check_if("step a\n", 0, 1, {-12000: 0, -1: 0, 0: 1, 12000: 1})
        told = ask(net("step a\n"), *[iflimit(0, 1, w) for w in [-12001, 12001, HUGE, -HUGE]])
        self.assertEqual(told[1:], [[-1]] * 4)

    def test_where_the_net_is_not_surely_kept(self):
        self.check_if(NOT_SURE_NET, 0, 1, {-12000: 0, 0: 0, 3: 0, 12000: 0})
        self.check_if("step a\nstep b\nlimit a b 1 -\nlimit b a 1 -\n", 1, 2, {12000: 0})

    def test_refusals(self):
        for text in [SURE_NET, NOT_SURE_NET]:
            for w in [0, -12000, 12000, 12001, -12001, HUGE, -HUGE]:
                for i in NO_STEPS_OF_THREE:
                    told = ask(net(text), iflimit(i, 0, w), iflimit(0, i, w), iflimit(i, i, w))
                    self.assertEqual(told, [[0]] + [[-1]] * 3)
                self.assertEqual(ask(net(text), *[iflimit(i, i, w) for i in range(3)]), [[0]] + [[-2]] * 3)
            for w in [12001, -12001, HUGE, -HUGE]:
                self.assertEqual(ask(net(text), iflimit(0, 1, w), iflimit(2, 1, w)), [[0], [-1], [-1]])

    def test_nothing_is_changed(self):
        for text in [SURE_NET, NOT_SURE_NET]:
            looks = [PRINT, STEPS, WEAK, SURE, bound(2, 0), STATE, KEPT, tick(1)]
            asked = [iflimit(0, 2, 0), iflimit(0, 2, 9), iflimit(2, 0, -9), tightest(0, 2), tightest(0, 0), iflimit(0, 1, HUGE)]
            self.assertEqual(ask(net(text), BEGIN, *looks), [row for n, row in enumerate(
                ask(net(text), BEGIN, *asked, *looks)) if not 2 <= n < 8])

    def test_print_told_again_with_the_limit(self):
        # iflimit tells what sure tells of the text with the limit's line.
        chance = random.Random(31)
        for _ in range(150):
            steps = chance.randint(2, 7)
            some = likely_net(chance, steps, chance.randint(0, min(3, steps - 1)), 4, 9)
            i, j = chance.sample(range(steps), 2)
            w = chance.randint(-12, 12)
            more = (i, j, None, w) if w >= 0 else (j, i, -w, None)
            told = ask(net(text_of(*some)), iflimit(i, j, w), net(text_of(steps, some[1] + [more], some[2])), SURE)
            self.assertEqual(told[1], told[3][:2])


class Promise3(OneMoreCase):
    """What tightest tells can surely be kept, and nothing tighter."""

    def test_likely_nets(self):
        chance = random.Random(32)
        seen = 0
        while seen < 60:
            steps = chance.randint(2, 9)
            some = likely_net(chance, steps, chance.randint(0, min(5, steps - 1)), 6, chance.choice([3, 20, 150]))
            i, j = chance.sample(range(steps), 2)
            told = ask(net(text_of(*some)), SURE, tightest(i, j))
            self.assertEqual(told[0], [0])
            if told[1] == NO:
                self.assertEqual(told[2], [-3])
            else:
                seen += 1
                w = told[2][2]
                self.check(text_of(*some), i, j, w)
                self.assertTrue(reference.sure_with(*some, i, j, w))
                self.assertFalse(w > -12000 and reference.sure_with(*some, i, j, w - 1))

    def test_by_the_plays(self):
        chance = random.Random(33)
        for _ in range(60):
            some = likely_net(chance, 3, chance.randint(1, 2), 3, 3)
            i, j = chance.sample(range(3), 2)
            told = ask(net(text_of(*some)), tightest(i, j))[1]
            if told != [-3] and -20 < told[2] < 20:
                steps, limits, natures = some
                for w in [told[2] - 1, told[2]]:
                    more = (i, j, None, w) if w >= 0 else (j, i, -w, None)
                    won = reference.Game(steps, limits + [more], natures).can_be_won()
                    self.assertEqual(won, w == told[2], (some, i, j, w))


if __name__ == "__main__":
    unittest.main()
