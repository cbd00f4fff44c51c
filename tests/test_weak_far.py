"""weak and far: told bounds, closing, rings."""

import unittest

from tests.talk import WEAK, ask, far, net

KEPT = [0, 1]
NOT_KEPT = [0, 0]
NONE = [0, 0]


def number(w):
    return [0, 1, w]


class WeakCase(unittest.TestCase):
    def check_weak(self, text, answer):
        with self.subTest(text=text):
            self.assertEqual(ask(net(text), WEAK), [[0], answer])

    def check_far(self, text, table):
        """The table tells, for each step, the answers of far to all others in turn."""
        for i, row in enumerate(table):
            others = [j for j in range(len(table)) if j != i]
            told = ask(net(text), *[far(i, j) for j in others])
            self.assertEqual(told[1:], row)


class Weak(WeakCase):
    def test_without_limits(self):
        self.assertEqual(ask(WEAK), [KEPT])
        self.check_weak("step a\nstep b\n", KEPT)

    def test_limits(self):
        two = "step a\nstep b\n"
        self.check_weak(two + "limit a b 3 5\nlimit start a 1 1\nlimit start b - 4\n", KEPT)
        self.check_weak(two + "limit a b 3 5\nlimit start a 2 2\nlimit start b - 4\n", NOT_KEPT)
        self.check_weak(two + "limit a b 3 -\nlimit a b - 3\n", KEPT)
        self.check_weak(two + "limit a b 3 -\nlimit a b - 2\n", NOT_KEPT)
        self.check_weak(two + "limit a b 0 0\nlimit b a 0 0\n", KEPT)
        self.check_weak(two + "limit a b 1 -\nlimit b a 0 -\n", NOT_KEPT)
        self.check_weak(two + "limit a b - 0\nlimit b a - 0\n", KEPT)

    def test_no_step_comes_before_start(self):
        self.check_weak("step a\nlimit a start 0 -\n", KEPT)
        self.check_weak("step a\nlimit a start 1 -\n", NOT_KEPT)
        self.check_weak("step a\nlimit a start - 0\n", KEPT)

    def test_natures(self):
        self.check_weak("step a\nnature start a 2 4\nlimit start a 4 4\n", KEPT)
        self.check_weak("step a\nnature start a 2 4\nlimit start a 5 -\n", NOT_KEPT)
        self.check_weak("step a\nnature start a 2 4\nlimit start a - 2\n", KEPT)
        self.check_weak("step a\nnature start a 2 4\nlimit start a - 1\n", NOT_KEPT)
        self.check_weak("step a\nstep b\nnature a b 1 9\nnature b a 1 9\n", NOT_KEPT)

    def test_ring_of_many_steps(self):
        steps = "".join(f"step s{i}\n" for i in range(1, 12))
        chain = "".join(f"limit s{i} s{i + 1} 1000 1000\n" for i in range(1, 11))
        self.check_weak(steps + chain + "limit s11 s1 - 1000\n", KEPT)
        self.check_weak(steps + chain + "limit s11 s1 0 -\n", NOT_KEPT)


class Far(WeakCase):
    def test_nothing_told(self):
        self.check_far("step a\nstep b\n", [[NONE, NONE], [number(0), NONE], [number(0), NONE]])

    def test_limits(self):
        self.check_far("step a\nlimit start a 3 7\n", [[number(7)], [number(-3)]])
        self.check_far("step a\nlimit start a - 7\n", [[number(7)], [number(0)]])
        self.check_far("step a\nlimit start a 3 -\n", [[NONE], [number(-3)]])
        self.check_far("step a\nlimit start a - -\n", [[NONE], [number(0)]])
        self.check_far("step a\nlimit a start - 7\n", [[NONE], [number(0)]])

    def test_the_least_of_several(self):
        self.check_far("step a\nlimit start a 3 7\nlimit start a 5 9\nlimit start a 4 6\n", [[number(6)], [number(-5)]])
        self.check_far("step a\nlimit start a 3 7\nnature start a 2 5\n", [[number(5)], [number(-3)]])

    def test_nature(self):
        self.check_far("step a\nnature start a 3 7\n", [[number(7)], [number(-3)]])

    def test_closing(self):
        text = "step a\nstep b\nstep c\nlimit start a 2 5\nlimit a b 1 3\nlimit b c 4 -\n"
        self.check_far(text, [
            [number(5), number(8), NONE],
            [number(-2), number(3), NONE],
            [number(-3), number(-1), NONE],
            [number(-7), number(-5), number(-4)],
        ])

    def test_far_ends(self):
        steps = "".join(f"step s{i}\n" for i in range(1, 12))
        chain = "limit start s1 1000 1000\n" + "".join(f"limit s{i} s{i + 1} 1000 1000\n" for i in range(1, 11))
        told = ask(net(steps + chain), far(0, 11), far(11, 0), far(3, 5), far(5, 3))
        self.assertEqual(told[1:], [number(11000), number(-11000), number(2000), number(-2000)])

    def test_weakly_but_not_surely_kept(self):
        told = ask(net("step a\nstep b\nnature start a 1 3\nlimit b a 1 1\n"), WEAK, far(0, 2), far(2, 0))
        self.assertEqual(told[1:], [KEPT, number(2), number(0)])


if __name__ == "__main__":
    unittest.main()
