"""begin and tick: what the desk does, what nature may do, and the refusals of both."""

import unittest

from tests.talk import BEGIN, KEPT, PRINT, STATE, SURE, ask, idle, net, tick

HUGE = 10 ** 18
NOT_SURE = "step a\nstep b\nnature start a 1 3\nlimit b a 1 1\n"
# b waits till a is done or 3 ticks are over, and 1 tick in any case.
WAITING = "step a\nstep b\nnature start a 1 5\nlimit b a - 2\n"


class PlayCase(unittest.TestCase):
    def check(self, text, *rows):
        """Rows of calls and answers behind the net."""
        calls = [call for call, answer in rows]
        with self.subTest(text=text, calls=calls):
            self.assertEqual(ask(net(text), *calls), [[0]] + [answer for call, answer in rows])


class Begin(PlayCase):
    def test_start_alone(self):
        self.assertEqual(ask(BEGIN, STATE), [[0, 0], [0, 0, 0]])

    def test_steps_without_limits(self):
        self.check("step a\nstep b\nstep c\n", (BEGIN, [0, 3, 1, 2, 3]), (STATE, [0, 0, 0, 0, 0, 0]))

    def test_own_steps_are_left_to_nature(self):
        self.check("step a\nstep b\nstep c\nnature start b 1 2\n", (BEGIN, [0, 2, 1, 3]), (STATE, [0, 0, 0, 0, -1, 0]))

    def test_as_soon_as_may_be(self):
        self.check("step a\nstep b\nlimit start a 2 9\nlimit start b - 9\n", (BEGIN, [0, 1, 2]), (STATE, [0, 0, 0, -1, 0]))

    def test_steps_that_are_done_together(self):
        self.check("step a\nstep b\nlimit a b 0 0\n", (BEGIN, [0, 2, 1, 2]))
        self.check("step a\nstep b\nlimit a b 0 5\n", (BEGIN, [0, 2, 1, 2]))
        self.check("step a\nstep b\nlimit b a 0 5\n", (BEGIN, [0, 2, 1, 2]))

    def test_steps_that_are_taken_away_again_and_again(self):
        # Each needs the next one at its tick or before; the last can't be done yet, so none can.
        text = "step a\nstep b\nstep c\nstep d\nlimit b a 0 -\nlimit c b 0 -\nlimit d c 0 -\nlimit start d 2 -\n"
        self.check(text, (BEGIN, [0, 0]), (tick(), [0, 1, 0]), (tick(), [0, 2, 4, 1, 2, 3, 4]))

    def test_not_surely_kept(self):
        self.check(NOT_SURE, (BEGIN, [-3]), (STATE, [-4]), (KEPT, [-4]), (tick(), [-4]))
        self.check("step a\nlimit a start 1 -\n", (BEGIN, [-3]), (STATE, [-4]))

    def test_anew(self):
        self.check(WAITING, (BEGIN, [0, 0]), (tick(1), [0, 1, 1, 2]), (STATE, [0, 1, 0, 1, 1]), (BEGIN, [0, 0]),
                   (STATE, [0, 0, 0, -1, -1]), (tick(), [0, 1, 0]), (tick(), [0, 2, 0]), (tick(), [0, 3, 1, 2]),
                   (STATE, [0, 3, 0, -1, 3]), (BEGIN, [0, 0]), (STATE, [0, 0, 0, -1, -1]))

    def test_on_another_net(self):
        self.check(WAITING, (BEGIN, [0, 0]), (net("step x\n"), [0]), (BEGIN, [0, 1, 1]), (STATE, [0, 0, 0, 0]))


class Waits(PlayCase):
    def test_till_the_nature_is_done(self):
        self.check(WAITING, (BEGIN, [0, 0]), (tick(1), [0, 1, 1, 2]), (KEPT, [0, 1, 1]))
        self.check(WAITING, (BEGIN, [0, 0]), (tick(), [0, 1, 0]), (tick(1), [0, 2, 1, 2]), (KEPT, [0, 1, 1]))

    def test_till_the_wait_is_over(self):
        for ticks, state in [([tick(1)], [0, 4, 0, 4, 3]), ([tick(), tick(1)], [0, 5, 0, 5, 3])]:
            told = ask(net(WAITING), BEGIN, tick(), tick(), tick(), KEPT, *ticks, STATE, KEPT)
            self.assertEqual(told[1:6], [[0, 0], [0, 1, 0], [0, 2, 0], [0, 3, 1, 2], [0, 0, 1]])
            self.assertEqual(told[-2:], [state, [0, 1, 1]])

    def test_just_when_the_wait_is_over(self):
        self.check(WAITING, (BEGIN, [0, 0]), (tick(), [0, 1, 0]), (tick(), [0, 2, 0]), (tick(1), [0, 3, 1, 2]))

    def test_from_the_beginning_of_a_later_nature(self):
        # d is done at 2; c may come 2 to 6 behind it; w waits for c, or 4 behind d.
        text = "step d\nstep c\nstep w\nlimit start d 2 -\nnature d c 2 6\nlimit w c - 2\n"
        before = [(BEGIN, [0, 0]), (tick(), [0, 1, 0]), (tick(), [0, 2, 1, 1]), (tick(), [0, 3, 0])]
        self.check(text, *before, (tick(2), [0, 4, 1, 3]), (STATE, [0, 4, 0, 2, 4, 4]))
        self.check(text, *before, (tick(), [0, 4, 0]), (tick(2), [0, 5, 1, 3]))
        self.check(text, *before, (tick(), [0, 4, 0]), (tick(), [0, 5, 0]), (tick(), [0, 6, 1, 3]),
                   (tick(), [0, 7, 0]), (tick(), [-6]), (tick(2), [0, 8, 0]), (KEPT, [0, 1, 1]))

    def test_for_two_natures(self):
        text = "step a\nstep b\nstep w\nnature start a 1 4\nnature start b 1 6\nlimit w a - 2\nlimit w b - 2\n"
        self.check(text, (BEGIN, [0, 0]), (tick(1), [0, 1, 0]), (tick(2), [0, 2, 1, 3]))
        self.check(text, (BEGIN, [0, 0]), (tick(2), [0, 1, 0]), (tick(), [0, 2, 1, 3]))
        self.check(text, (BEGIN, [0, 0]), (tick(1, 2), [0, 1, 1, 3]))
        self.check(text, (BEGIN, [0, 0]), (tick(), [0, 1, 0]), (tick(), [0, 2, 0]), (tick(1), [0, 3, 0]),
                   (tick(), [0, 4, 1, 3]), (tick(), [0, 5, 0]), (tick(2), [0, 6, 0]), (KEPT, [0, 1, 1]))


class BehindAWait(PlayCase):
    def test_a_step_behind_one_that_waits(self):
        # c comes 2 behind b, whenever that is: b's tick isn't enough for it.
        text = "step a\nstep b\nstep c\nnature start a 1 9\nlimit b a - 2\nlimit b c 2 -\n"
        before = [(BEGIN, [0, 0]), (idle(4), [0, 4, 0])]
        self.check(text, *before, (tick(1), [0, 5, 1, 2]), (tick(), [0, 6, 0]), (tick(), [0, 7, 1, 3]), (KEPT, [0, 1, 1]))
        self.check(text, *before, (idle(300), [0, 7, 1, 2]), (tick(1), [0, 8, 0]), (tick(), [0, 9, 1, 3]), (KEPT, [0, 1, 1]))

    def test_a_step_that_is_done_with_one_that_waits(self):
        text = "step a\nstep b\nstep c\nnature start a 1 9\nlimit b a - 2\nlimit b c 0 -\n"
        self.check(text, (BEGIN, [0, 0]), (idle(4), [0, 4, 0]), (tick(1), [0, 5, 2, 2, 3]))
        self.check(text, (BEGIN, [0, 0]), (idle(300), [0, 7, 2, 2, 3]))


class BehindNature(PlayCase):
    def test_at_its_very_tick(self):
        text = "step n\nstep a\nstep b\nnature start n 2 4\nlimit n a 0 0\nlimit a b 0 0\n"
        self.check(text, (BEGIN, [0, 0]), (tick(), [0, 1, 0]), (tick(1), [0, 2, 2, 2, 3]), (STATE, [0, 2, 0, 2, 2, 2]))
        self.check(text, (BEGIN, [0, 0]), (tick(), [0, 1, 0]), (tick(), [0, 2, 0]), (tick(), [0, 3, 0]), (tick(), [-6]),
                   (tick(1), [0, 4, 2, 2, 3]), (KEPT, [0, 1, 1]))

    def test_some_ticks_later(self):
        text = "step n\nstep a\nnature start n 1 3\nlimit n a 2 5\n"
        self.check(text, (BEGIN, [0, 0]), (tick(1), [0, 1, 0]), (tick(), [0, 2, 0]), (tick(), [0, 3, 1, 2]))

    def test_natures_begun_by_natures(self):
        text = "step a\nstep b\nstep e\nnature start a 1 2\nnature a b 1 2\nlimit b e 1 1\n"
        self.check(text, (BEGIN, [0, 0]), (tick(2), [-6]), (tick(1, 2), [-6]), (tick(1), [0, 1, 0]), (tick(1), [-6]),
                   (tick(2), [0, 2, 0]), (tick(), [0, 3, 1, 3]), (STATE, [0, 3, 0, 1, 2, 3]))
        self.check(text, (BEGIN, [0, 0]), (tick(), [0, 1, 0]), (tick(1), [0, 2, 0]), (tick(), [0, 3, 0]), (tick(), [-6]),
                   (tick(2), [0, 4, 0]), (tick(), [0, 5, 1, 3]), (KEPT, [0, 1, 1]))

    def test_on_and_on_behind_the_end(self):
        self.check("step a\nnature start a 1 1\n", (BEGIN, [0, 0]), (tick(1), [0, 1, 0]), (tick(), [0, 2, 0]), (tick(), [0, 3, 0]),
                   (tick(1), [-6]), (STATE, [0, 3, 0, 1]), (KEPT, [0, 1, 1]))


class WhatNatureMayDo(PlayCase):
    # a may come at 2 to 4, b at 3; ours is p, at tick 6.
    TEXT = "step a\nstep b\nstep p\nnature start a 2 4\nnature start b 3 3\nlimit start p 6 -\n"

    def test_not_yet(self):
        self.check(self.TEXT, (BEGIN, [0, 0]), (tick(1), [-6]), (tick(2), [-6]), (tick(), [0, 1, 0]), (tick(2), [-6]),
                   (tick(1, 2), [-6]), (tick(1), [0, 2, 0]))

    def test_must(self):
        before = [(BEGIN, [0, 0]), (tick(), [0, 1, 0]), (tick(), [0, 2, 0])]
        self.check(self.TEXT, *before, (tick(), [-6]), (tick(1), [-6]), (tick(2), [0, 3, 0]), (tick(), [-6]), (tick(1), [0, 4, 0]))
        self.check(self.TEXT, *before, (tick(2, 1), [0, 3, 0]), (STATE, [0, 3, 0, 3, 3, -1]))

    def test_done_already(self):
        self.check(self.TEXT, (BEGIN, [0, 0]), (tick(), [0, 1, 0]), (tick(1), [0, 2, 0]), (tick(1, 2), [-6]), (tick(2), [0, 3, 0]))

    def test_steps_of_ours(self):
        self.check(self.TEXT, (BEGIN, [0, 0]), (tick(3), [-6]), (tick(0), [-6]), (tick(), [0, 1, 0]), (tick(1, 3), [-6]),
                   (tick(0, 1), [-6]), (STATE, [0, 1, 0, -1, -1, -1]))

    def test_a_step_told_twice(self):
        # It's one that nature may do; that it's told twice is nothing that the document rules out.
        self.check(self.TEXT, (BEGIN, [0, 0]), (tick(), [0, 1, 0]), (tick(1, 1), [0, 2, 0]), (tick(*[2] * 20), [0, 3, 0]),
                   (STATE, [0, 3, 0, 2, 3, -1]))
        self.check(self.TEXT, (BEGIN, [0, 0]), (tick(1, 1), [-6]), (tick(3, 3), [-6]))

    def test_no_step(self):
        for step in [-1, 4, 12, HUGE, -HUGE, HUGE - 1]:
            self.check(self.TEXT, (BEGIN, [0, 0]), (tick(step), [-1]), (tick(), [0, 1, 0]), (tick(1, step), [-1]),
                       (tick(step, 1), [-1]), (STATE, [0, 1, 0, -1, -1, -1]))

    def test_which_refusal_is_first(self):
        # -4 ahead of -1, -1 ahead of -6; -3 can't be due, for a play is on only where the net is surely kept.
        self.check(self.TEXT, (tick(9), [-4]), (tick(1), [-4]), (tick(*[HUGE] * 20), [-4]), (BEGIN, [0, 0]), (tick(1, 9), [-1]),
                   (tick(3, -1), [-1]), (tick(*[0] * 19, HUGE), [-1]))
        self.check(NOT_SURE, (tick(9), [-4]), (tick(), [-4]))

    def test_nothing_changes_behind_a_refusal(self):
        refused = [tick(3), tick(2), tick(9), tick(1, 9), tick(1, 2), idle(0), idle(301)]
        told = ask(net(self.TEXT), BEGIN, tick(), STATE, KEPT, SURE, PRINT, *refused, STATE, KEPT, SURE, PRINT, tick(1), STATE)
        self.assertEqual(told[3:7], told[14:18])
        self.assertEqual(told[7:14], [[-6], [-6], [-1], [-1], [-6], [-1], [-1]])
        self.assertEqual(told[18:], [[0, 2, 0], [0, 2, 0, 2, -1, -1]])


if __name__ == "__main__":
    unittest.main()
