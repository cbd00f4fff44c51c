"""state and kept, and when a play is on."""

import unittest

from steptimes.desk import Desk
from steptimes.nets import Limit
from tests.talk import BEGIN, KEPT, PRINT, STATE, STEPS, SURE, WEAK, ask, bound, far, game, idle, iflimit, net, tick, tightest, wait

NO_PLAY = [[-4], [-4]]
TEXT = "step a\nstep b\nstep c\nnature start a 1 3\nlimit a b 1 2\nlimit start c - 0\n"
NOT_SURE = "step a\nstep b\nnature start a 1 3\nlimit b a 1 1\n"


class WhenAPlayIsOn(unittest.TestCase):
    def test_new_object(self):
        self.assertEqual(ask(STATE, KEPT), NO_PLAY)

    def test_before_begin(self):
        self.assertEqual(ask(net(TEXT), STATE, KEPT)[1:], NO_PLAY)

    def test_behind_begin(self):
        self.assertEqual(ask(net(TEXT), BEGIN, STATE, KEPT)[1:], [[0, 1, 3], [0, 0, 0, -1, -1, 0], [0, 0, 1]])
        self.assertEqual(ask(BEGIN, STATE, KEPT), [[0, 0], [0, 0, 0], [0, 1, 1]])

    def test_behind_a_refused_begin(self):
        self.assertEqual(ask(net(NOT_SURE), BEGIN, STATE, KEPT)[1:], [[-3]] + NO_PLAY)

    def test_tick_by_tick_to_the_end(self):
        told = ask(net(TEXT), BEGIN, tick(), STATE, KEPT, tick(1), STATE, KEPT, tick(), STATE, KEPT, idle(300), STATE, KEPT)
        self.assertEqual(told[2:], [
            [0, 1, 0], [0, 1, 0, -1, -1, 0], [0, 0, 1],
            [0, 2, 0], [0, 2, 0, 2, -1, 0], [0, 0, 1],
            [0, 3, 1, 2], [0, 3, 0, 2, 3, 0], [0, 1, 1],
            [0, 303, 0], [0, 303, 0, 2, 3, 0], [0, 1, 1],
        ])

    def test_behind_a_new_net(self):
        for text in [TEXT, "", "step x\n", NOT_SURE]:
            told = ask(net(TEXT), BEGIN, tick(1), net(text), STATE, KEPT, tick(), idle(1), tick(9), idle(0))
            self.assertEqual(told[3:], [[0]] + [[-4]] * 6)

    def test_behind_a_wrong_net(self):
        for text in ["x", TEXT + "step a", "limit start start 0 0"]:
            told = ask(net(TEXT), BEGIN, tick(1), STATE, KEPT, net(text), STATE, KEPT, tick(), STATE)
            self.assertEqual(told[5][0], 1)
            self.assertEqual(told[3:5], [[0, 1, 0, 1, -1, 0], [0, 0, 1]])
            self.assertEqual(told[6:8], told[3:5])
            self.assertEqual(told[8:], [[0, 2, 1, 2], [0, 2, 0, 1, 2, 0]])
        self.assertEqual(ask(net(TEXT), net("x"), STATE, KEPT)[2:], NO_PLAY)

    def test_calls_that_only_ask(self):
        asked = [PRINT, STEPS, WEAK, SURE, bound(2, 0), wait(0, 2), far(2, 0), tightest(0, 2), game(8), STATE, KEPT, iflimit(0, 2, 5)]
        told = ask(net(TEXT), BEGIN, tick(1), STATE, KEPT, *asked, STATE, KEPT, tick())
        self.assertEqual(told[3:5], told[-3:-1])
        self.assertEqual(told[-1], [0, 2, 1, 2])
        self.assertEqual(ask(net(TEXT), *asked, STATE, KEPT)[-2:], NO_PLAY)


class WhatIsKept(unittest.TestCase):
    """A play of the desk's breaks no limit, so what is not kept is asked of the limits themselves."""

    def check(self, least, most, times, kept):
        self.assertIs(Limit(1, 2, least, most).is_kept(times), kept)

    def test_least(self):
        self.check(3, None, [0, 4, 7], True)
        self.check(3, None, [0, 4, 6], False)
        self.check(0, None, [0, 4, 4], True)
        self.check(0, None, [0, 4, 3], False)

    def test_most(self):
        self.check(None, 3, [0, 4, 7], True)
        self.check(None, 3, [0, 4, 8], False)
        self.check(None, 0, [0, 4, 4], True)
        self.check(None, 0, [0, 4, 5], False)
        self.check(None, 3, [0, 4, 1], True)

    def test_both_and_none(self):
        self.check(2, 3, [0, 4, 5], False)
        self.check(2, 3, [0, 4, 6], True)
        self.check(2, 3, [0, 4, 7], True)
        self.check(2, 3, [0, 4, 8], False)
        self.check(None, None, [0, 4, 0], True)

    def test_steps_that_are_not_done(self):
        self.check(2, 3, [0, None, 9], True)
        self.check(2, 3, [0, 1, None], True)
        self.check(2, 3, [0, None, None], True)

    def test_all_limits_of_a_play(self):
        desk = Desk()
        desk.answer(0, [], list(TEXT.encode()))
        desk.answer(10, [], [])
        for times, answer in [([0, 1, 2, 0], [0, 1, 1]), ([0, 1, 3, 0], [0, 1, 1]), ([0, 1, 1, 0], [0, 1, 0]), ([0, 1, 4, 0], [0, 1, 0]),
                              ([0, 1, 2, 1], [0, 1, 0]), ([0, 1, None, 1], [0, 0, 0]), ([0, 1, None, 0], [0, 0, 1])]:
            desk.play.times = times
            self.assertEqual(desk.answer(14, [], []), answer)


if __name__ == "__main__":
    unittest.main()
