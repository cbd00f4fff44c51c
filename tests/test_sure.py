"""sure, bound and wait: forms, rounds, the reduced form."""

import unittest
from unittest import mock

from steptimes import forms
from tests.talk import SURE, WEAK, ask, bound, net, text_of, wait

NOT_SURE = [0, 0]
NONE = [0, 0]

# Nets that need 2 to 6 rounds, found by a search and then made as small as they could be.
SLOW_NETS = [
    (2, 4, [(3, 1, 0, None)], [(0, 3, 1, 2), (2, 1, 1, 1)]),
    (2, 4, [(3, 2, None, 1)], [(1, 2, 1, 2)]),
    (3, 5, [(4, 1, 0, None)], [(3, 2, 1, 1), (0, 4, 1, 3), (2, 1, 1, 2)]),
    (3, 6, [(5, 4, None, 42), (2, 3, None, 0)], [(1, 3, 1, 2), (2, 4, 1, 41)]),
    (4, 7, [(4, 3, None, 0)], [(5, 6, 1, 1), (6, 2, 1, 2), (2, 4, 33, 34), (1, 3, 1, 36)]),
    (5, 7, [(6, 3, 0, None)], [(2, 5, 1, 2), (1, 2, 1, 1), (5, 4, 104, 105), (0, 6, 140, 267), (4, 3, 21, 22)]),
    (6, 8, [(5, 1, None, 1), (7, 3, 0, None)],
     [(2, 6, 1, 2), (1, 2, 127, 128), (6, 4, 104, 105), (0, 7, 140, 394), (4, 3, 21, 22)]),
]

# Nets in whose longest bounds a ring is seen only behind so many rounds.
LATE_RINGS = [
    (2, 6, [(5, 1, 0, None), (2, 1, None, 0)], [(0, 4, 1, 2), (3, 5, 1, 3), (4, 2, 1, 2)]),
    (3, 8, [(7, 3, 58, None), (2, 5, None, 0), (4, 1, None, 0)],
     [(1, 2, 1, 2), (4, 7, 1, 350), (6, 3, 119, 120), (5, 6, 287, 288)]),
    (3, 9, [(7, 5, None, 0), (4, 3, None, 0), (1, 8, 0, None), (2, 1, 0, None)],
     [(6, 7, 1, 2), (2, 6, 1, 2), (5, 4, 20, 21), (8, 3, 1, 23)]),
]


def number(w):
    return NONE if w is None else [0, 1, w]


def sure(earlier):
    return [0, 1, earlier]


class SureCase(unittest.TestCase):
    def check(self, text, earlier, bounds, waits):
        """The tables hold all bounds, but those from a step to itself (there 0 stands), and all waits."""
        size = len(bounds)
        pairs = [(i, j) for i in range(size) for j in range(size) if i != j]
        held = [(k, i) for k in range(len(waits)) for i in range(size)]
        told = ask(net(text), SURE, *[bound(i, j) for i, j in pairs], *[wait(k, i) for k, i in held])
        self.assertEqual(told[:2], [[0], sure(earlier)])
        self.assertEqual(told[2:], [number(bounds[i][j]) for i, j in pairs] + [number(waits[k][i]) for k, i in held])

    def check_not_sure(self, text, weakly=1):
        with self.subTest(text=text):
            told = ask(net(text), WEAK, SURE, bound(0, 1), wait(0, 0))
            self.assertEqual(told[:3], [[0], [0, weakly], NOT_SURE])
            self.assertEqual(told[3], [-3])


class WithoutNatures(SureCase):
    def test_start_alone(self):
        self.assertEqual(ask(SURE), [sure(0)])
        self.assertEqual(ask(net(""), SURE), [[0], sure(0)])

    def test_first_form_is_the_reduced_one(self):
        self.check("step a\n", 0, [[0, None], [0, 0]], [])
        self.check("step a\nlimit start a 2 5\n", 0, [[0, 5], [-2, 0]], [])
        self.check("step a\nlimit start a - -\n", 0, [[0, None], [0, 0]], [])

    def test_bounds_that_have_to_be_closed(self):
        self.check("step a\nstep b\nlimit start a 2 5\nlimit a b 1 3\n", 1, [[0, 5, 8], [-2, 0, 3], [-3, -1, 0]], [])

    def test_not_even_weakly(self):
        self.check_not_sure("step a\nlimit a start 1 -\n", weakly=0)


class OneNature(SureCase):
    def test_nature_alone(self):
        self.check("step a\nnature start a 2 7\n", 0, [[0, 7], [-2, 0]], [[None, -7]])

    def test_a_wait(self):
        # b may come at most 2 before a: 3 behind start, or when a has come, and that's 1 behind start at the soonest.
        self.check("step a\nstep b\nnature start a 1 5\nlimit b a - 2\n", 1,
                   [[0, 5, None], [-1, 0, None], [-1, 2, 0]], [[None, -5, -3]])

    def test_a_wait_that_lo_does_not_reach(self):
        # The wait is over before a can come, so it is as good as a bound.
        self.check("step a\nstep b\nnature start a 4 5\nlimit b a - 2\n", 1,
                   [[0, 5, None], [-4, 0, None], [-3, 2, 0]], [[None, -5, -3]])

    def test_a_wait_that_is_none_too_long(self):
        # Nine ticks before a is sooner than start, where b may come without a wait.
        self.check("step a\nstep b\nnature start a 4 5\nlimit b a - 9\n", 1,
                   [[0, 5, None], [-4, 0, None], [0, 5, 0]], [[None, -5, 0]])

    def test_a_wait_above_zero(self):
        self.check("step a\nstep b\nstep c\nnature a b 4 5\nlimit c a - 3\n", 1,
                   [[0, None, None, None], [0, 0, 5, None], [-4, -4, 0, None], [0, 3, 8, 0]], [[None, None, -5, 3]])

    def test_own_step_is_squeezed(self):
        self.check_not_sure("step a\nnature start a 2 7\nlimit start a 3 -\n")
        self.check_not_sure("step a\nnature start a 2 7\nlimit start a - 6\n")
        self.check("step a\nnature start a 2 7\nlimit start a 2 7\n", 0, [[0, 7], [-2, 0]], [[None, -7]])

    def test_a_step_that_would_have_to_foresee(self):
        self.check_not_sure("step a\nstep b\nnature start a 1 3\nlimit b a 1 1\n")
        self.check_not_sure("step a\nstep b\nnature start a 1 3\nlimit b a 1 2\n")
        told = ask(net("step a\nstep b\nnature start a 1 3\nlimit b a 1 3\n"), SURE)
        self.assertEqual(told[1][:2], [0, 1])

    def test_a_step_with_its_nature(self):
        told = ask(net("step a\nstep b\nnature start a 1 3\nlimit a b 0 0\n"), SURE)
        self.assertEqual(told[1][:2], [0, 1])

    def test_limit_at_a_step_that_is_too_late(self):
        self.check_not_sure("step a\nstep b\nnature start a 1 3\nlimit a b 0 -\nlimit start b - 2\n")


class SeveralNatures(SureCase):
    def test_two_rounds(self):
        self.check(text_of(*SLOW_NETS[0][1:]), 2,
                   [[0, None, None, 2], [-2, 0, -1, 0], [-1, 1, 0, 1], [-1, None, None, 0]],
                   [[None, -2, -1, -2], [None, -1, None, None]])

    def test_a_wait_passed_on_to_its_own_beginning(self):
        # Part 2 passes a wait on to the step that begins both natures; part 1 takes it away first, each round.
        self.check("step a\nstep b\nstep c\nnature a b 4 4\nnature a c 1 3\n", 1,
                   [[0, None, None, None], [0, 0, 4, 3], [-4, -4, 0, -1], [-1, -1, 3, 0]],
                   [[None, 0, -4, -1], [None, 0, -4, -3]])

    def test_number_of_rounds(self):
        for earlier, steps, limits, natures in SLOW_NETS:
            told = ask(net(text_of(steps, limits, natures)), SURE)
            self.assertEqual(told, [[0], sure(earlier)])

    def test_rings_seen_late(self):
        for _, steps, limits, natures in LATE_RINGS:
            self.check_not_sure(text_of(steps, limits, natures))

    def test_natures_in_a_circle(self):
        self.check_not_sure("step a\nstep b\nnature a b 1 2\nnature b a 1 2\n", weakly=0)

    def test_two_natures_one_before_the_other(self):
        text = "step a\nstep b\nnature start a 1 {}\nnature start b {} 9\nlimit a b 0 -\n"
        self.assertEqual(ask(net(text.format(4, 4)), SURE)[1][:2], [0, 1])
        self.check_not_sure(text.format(4, 3))


class MostForms(unittest.TestCase):
    def test_sixty(self):
        self.assertEqual(forms.MOST_FORMS, 60)

    def test_no_more_forms_are_looked_at(self):
        # No net is known that needs nearly 60 forms, so the same is asked of a lesser number.
        for earlier, steps, limits, natures in SLOW_NETS:
            call = net(text_of(steps, limits, natures))
            with mock.patch.object(forms, "MOST_FORMS", earlier):
                self.assertEqual(ask(call, SURE, bound(0, 1), wait(0, 0)), [[0], NOT_SURE, [-3], [-3]])
            with mock.patch.object(forms, "MOST_FORMS", earlier + 1):
                self.assertEqual(ask(call, SURE), [[0], sure(earlier)])


if __name__ == "__main__":
    unittest.main()
