"""The refusals of bound, wait and far, each by itself and where several are due."""

import unittest

from tests.talk import PRINT, STEPS, SURE, WEAK, ask, bound, far, net, wait

HUGE = 10 ** 18
NO_STEPS_OF_THREE = [-1, 3, 4, 12, HUGE, HUGE - 1, -HUGE, 1 - HUGE]
SURE_NET = "step a\nstep b\nnature start a 1 3\nlimit a b 0 4\n"
WEAK_NET = "step a\nstep b\nnature start a 1 3\nlimit b a 1 1\n"
RING_NET = "step a\nstep b\nnature start a 1 3\nlimit a b 2 -\nlimit b a 0 -\n"


class Refusals(unittest.TestCase):
    def check(self, text, call, refusal):
        with self.subTest(text=text, call=call):
            self.assertEqual(ask(net(text), call), [[0], [refusal]])

    def check_taken(self, text, call):
        with self.subTest(text=text, call=call):
            self.assertEqual(ask(net(text), call)[1][0], 0)

    def test_no_such_step(self):
        for call in [bound, far]:
            for i in NO_STEPS_OF_THREE:
                self.check(SURE_NET, call(i, 0), -1)
                self.check(SURE_NET, call(0, i), -1)
                self.check(SURE_NET, call(i, i), -1)
                self.check(SURE_NET, call(i, -i), -1)

    def test_same_step(self):
        for call in [bound, far]:
            for i in [0, 1, 2]:
                self.check(SURE_NET, call(i, i), -2)

    def test_all_other_pairs_are_taken(self):
        for call in [bound, far]:
            for i, j in [(0, 1), (1, 0), (0, 2), (2, 0), (1, 2), (2, 1)]:
                self.check_taken(SURE_NET, call(i, j))

    def test_not_surely_kept(self):
        for text in [WEAK_NET, RING_NET]:
            self.check(text, bound(0, 1), -3)
            self.check(text, bound(2, 0), -3)
            self.check(text, wait(0, 0), -3)
            self.check(text, wait(0, 2), -3)

    def test_not_weakly_kept(self):
        self.check(RING_NET, far(0, 1), -3)
        self.check(RING_NET, far(2, 1), -3)
        self.check_taken(WEAK_NET, far(0, 1))

    def test_order_where_the_net_is_not_kept(self):
        for call in [bound, far]:
            self.check(RING_NET, call(0, 3), -1)
            self.check(RING_NET, call(-1, 1), -1)
            self.check(RING_NET, call(3, 3), -1)
            self.check(RING_NET, call(HUGE, -HUGE), -1)
            self.check(RING_NET, call(1, 1), -2)
        self.check(WEAK_NET, bound(0, 3), -1)
        self.check(WEAK_NET, bound(2, 2), -2)
        self.check(WEAK_NET, wait(1, 0), -1)
        self.check(WEAK_NET, wait(0, 3), -1)

    def test_no_such_nature_or_step(self):
        for k in [-1, 1, 2, 5, HUGE, -HUGE]:
            self.check(SURE_NET, wait(k, 0), -1)
            self.check(RING_NET, wait(k, 0), -1)
        for i in NO_STEPS_OF_THREE:
            self.check(SURE_NET, wait(0, i), -1)
            self.check(SURE_NET, wait(HUGE, i), -1)
        for i in [0, 1, 2]:
            self.check_taken(SURE_NET, wait(0, i))

    def test_new_object(self):
        self.assertEqual(ask(bound(0, 0), bound(0, 1), far(0, 0), far(1, 0), wait(0, 0)), [[-2], [-1], [-2], [-1], [-1]])

    def test_refusals_change_nothing(self):
        for text in [SURE_NET, WEAK_NET, RING_NET]:
            asked = [PRINT, STEPS, WEAK, SURE, bound(2, 0), far(2, 0), wait(0, 2)]
            refused = [bound(0, 9), bound(1, 1), wait(4, 0), wait(0, HUGE), far(-1, 0), far(2, 2)]
            told = ask(net(text), *asked, *refused, *asked)
            self.assertEqual(told[1:8], told[14:])
            self.assertEqual(told[8:14], [[-1], [-2], [-1], [-1], [-1], [-2]])


if __name__ == "__main__":
    unittest.main()
