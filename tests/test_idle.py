"""idle: ticks at which nature does nothing."""

import unittest

from tests.talk import BEGIN, KEPT, PRINT, STATE, SURE, ask, idle, net, tick

HUGE = 10 ** 18


class IdleCase(unittest.TestCase):
    def check(self, text, *rows):
        """Rows of calls and answers behind the net and begin."""
        calls = [call for call, answer in rows]
        with self.subTest(text=text, calls=calls):
            self.assertEqual(ask(net(text), BEGIN, *calls)[2:], [answer for call, answer in rows])


class StoppedByM(IdleCase):
    def test_nothing_happens(self):
        text = "step a\nlimit start a 1000 -\n"
        self.check(text, (idle(1), [0, 1, 0]), (idle(2), [0, 3, 0]), (idle(300), [0, 303, 0]), (idle(1), [0, 304, 0]),
                   (STATE, [0, 304, 0, -1]))

    def test_all_is_done_already(self):
        self.check("step a\n", (KEPT, [0, 1, 1]), (idle(1), [0, 1, 0]), (idle(300), [0, 301, 0]), (STATE, [0, 301, 0, 0]))
        self.assertEqual(ask(BEGIN, idle(300), idle(7), STATE), [[0, 0], [0, 300, 0], [0, 307, 0], [0, 307, 0]])
        self.check("step a\nnature start a 1 2\n", (tick(1), [0, 1, 0]), (idle(300), [0, 301, 0]), (KEPT, [0, 1, 1]))

    def test_just_before_something(self):
        text = "step a\nlimit start a 5 -\n"
        self.check(text, (idle(4), [0, 4, 0]), (STATE, [0, 4, 0, -1]), (idle(1), [0, 5, 1, 1]), (idle(2), [0, 7, 0]))


class StoppedByTheDesk(IdleCase):
    def test_one_step(self):
        text = "step a\nlimit start a 5 -\n"
        for m in [5, 6, 300]:
            self.check(text, (idle(m), [0, 5, 1, 1]), (STATE, [0, 5, 0, 5]), (idle(m), [0, 5 + m, 0]))

    def test_several_steps(self):
        text = "step a\nstep b\nstep c\nlimit start a 2 -\nlimit b c 0 0\nlimit a c 3 -\n"
        self.check(text, (idle(300), [0, 2, 1, 1]), (idle(300), [0, 5, 2, 2, 3]), (KEPT, [0, 1, 1]), (idle(10), [0, 15, 0]))

    def test_at_ticks_one_behind_another(self):
        text = "step a\nstep b\nlimit start a 1 1\nlimit a b 1 1\n"
        self.check(text, (idle(9), [0, 1, 1, 1]), (idle(9), [0, 2, 1, 2]), (idle(9), [0, 11, 0]))

    def test_what_was_done_earlier_is_not_told(self):
        text = "step a\nstep b\nlimit start b 3 -\n"
        self.assertEqual(ask(net(text), BEGIN, idle(2), idle(2)), [[0], [0, 1, 1], [0, 2, 0], [0, 3, 1, 2]])

    def test_a_wait_that_is_over(self):
        self.check("step a\nstep b\nnature start a 1 5\nlimit b a - 2\n", (idle(300), [0, 3, 1, 2]), (STATE, [0, 3, 0, -1, 3]))

    def test_farthest(self):
        names = ["start"] + [f"s{i}" for i in range(1, 12)]
        text = "".join(f"step {name}\n" for name in names[1:])
        text += "".join(f"limit {a} {b} 1000 1000\n" for a, b in zip(names, names[1:]))
        told = ask(net(text), BEGIN, *[idle(300)] * 44, KEPT)
        expected = [[0, 1000 * s + t, 0] if t < 1000 else [0, 1000 * s + t, 1, s + 1]
                    for s in range(11) for t in [300, 600, 900, 1000]]
        self.assertEqual(told[2:], expected + [[0, 1, 1]])


class StoppedByNature(IdleCase):
    def test_at_the_very_next_tick(self):
        self.check("step a\nnature start a 1 1\n", (idle(1), [0, 0, 0]), (idle(300), [0, 0, 0]), (STATE, [0, 0, 0, -1]),
                   (tick(1), [0, 1, 0]), (idle(3), [0, 4, 0]))

    def test_at_a_later_tick(self):
        text = "step a\nnature start a 1 6\n"
        for m in [5, 6, 7, 300]:
            self.check(text, (idle(m), [0, 5, 0]), (idle(m), [0, 5, 0]), (tick(), [-6]), (tick(1), [0, 6, 0]))
        self.check(text, (idle(4), [0, 4, 0]), (idle(1), [0, 5, 0]), (idle(1), [0, 5, 0]))

    def test_by_the_first_of_several(self):
        text = "step a\nstep b\nnature start a 1 6\nnature start b 2 4\n"
        self.check(text, (idle(300), [0, 3, 0]), (tick(2), [0, 4, 0]), (idle(300), [0, 5, 0]), (tick(1), [0, 6, 0]))
        self.check(text, (tick(1), [0, 1, 0]), (idle(300), [0, 3, 0]), (tick(2), [0, 4, 0]), (idle(5), [0, 9, 0]))

    def test_by_one_that_begins_in_between(self):
        # The desk does d at 2; from then on nature has 3 ticks.
        text = "step d\nstep c\nlimit start d 2 -\nnature d c 1 3\n"
        self.check(text, (idle(300), [0, 2, 1, 1]), (idle(300), [0, 4, 0]), (idle(300), [0, 4, 0]), (tick(2), [0, 5, 0]))

    def test_what_nature_may_do_does_not_stop(self):
        self.check("step a\nstep b\nnature start a 1 9\nlimit start b 4 -\n", (idle(300), [0, 4, 1, 2]), (idle(2), [0, 6, 0]),
                   (tick(1), [0, 7, 0]))

    def test_the_desk_and_nature_both(self):
        # At 4 the desk does something, and at 5 nature must: no tick passes behind it.
        text = "step a\nstep b\nnature start a 1 5\nlimit start b 4 -\n"
        self.check(text, (idle(300), [0, 4, 1, 2]), (idle(1), [0, 4, 0]), (tick(1), [0, 5, 0]))
        # At 5 both: nature moves first, so no tick passes to 5.
        text = "step a\nstep b\nnature start a 1 5\nlimit start b 5 -\n"
        self.check(text, (idle(300), [0, 4, 0]), (tick(1), [0, 5, 1, 2]))


class Refusals(unittest.TestCase):
    TEXT = "step a\nnature start a 1 400\n"

    def test_no_play(self):
        for m in [-HUGE, -1, 0, 1, 300, 301, HUGE]:
            self.assertEqual(ask(idle(m), net(self.TEXT), idle(m)), [[-4], [0], [-4]])

    def test_m(self):
        for m in [-HUGE, 1 - HUGE, -1, 0, 301, 302, HUGE]:
            self.assertEqual(ask(net(self.TEXT), BEGIN, idle(m), STATE), [[0], [0, 0], [-1], [0, 0, 0, -1]])
        self.assertEqual(ask(net(self.TEXT), BEGIN, idle(1), idle(300)), [[0], [0, 0], [0, 1, 0], [0, 301, 0]])

    def test_m_is_asked_though_no_tick_could_pass(self):
        told = ask(net("step a\nnature start a 1 1\n"), BEGIN, idle(0), idle(301), idle(1))
        self.assertEqual(told[2:], [[-1], [-1], [0, 0, 0]])

    def test_nothing_else_changes(self):
        told = ask(net(self.TEXT), PRINT, SURE, BEGIN, idle(300), idle(301), PRINT, SURE)
        self.assertEqual(told[1:3], told[6:])


if __name__ == "__main__":
    unittest.main()
