"""How calls and answers are laid in lists, and that nothing is changed or kept."""

import unittest

import steptimes.desk
from tests.talk import PRINT, STEPS, SURE, WEAK, bound, far, net, wait


class Interface(unittest.TestCase):
    def test_several_calls_in_one_list(self):
        text = list(b"step a\nnature start a 1 3\n")
        wrong = list(b"step b\n\nstep b")
        calls = [0, 26] + text + [3, 4, 5, 1, 0, 5, 1, 1, 6, 0, 0, 6, 0, 1, 7, 0, 1, 0, 14] + wrong + [2, 1]
        self.assertEqual(steptimes.desk.answers(calls), [
            1, 0,
            2, 0, 1,
            3, 0, 1, 0,
            3, 0, 1, -1,
            1, -2,
            2, 0, 0,
            3, 0, 1, -3,
            3, 0, 1, 3,
            3, 1, 3, 2,
            12, 0, 2, 0, 5, 115, 116, 97, 114, 116, 1, 1, 97,
            28, 0, 26,
        ] + text)

    def test_text_that_looks_like_calls(self):
        self.assertEqual(steptimes.desk.answers([0, 3, 35, 4, 0, 3]), [1, 0, 2, 0, 1])
        self.assertEqual(steptimes.desk.answers([0, 0, 0, 1, 7, 0, 0]), [1, 0, 3, 1, 1, 1, 1, 0])

    def test_four_hundred_calls(self):
        calls = net("step a\nlimit start a 1 2\n") + far(0, 1) * 399
        self.assertEqual(steptimes.desk.answers(calls), [1, 0] + [3, 0, 1, 2] * 399)

    def test_nothing_is_changed(self):
        calls = net("step a\nstep b\nnature start a 1 3\nlimit b a - 2\n") + SURE + bound(2, 0) + wait(0, 2) + far(2, 0)
        calls += net("x") + PRINT + STEPS + WEAK
        before = list(calls)
        first = steptimes.desk.answers(calls)
        self.assertEqual(calls, before)
        first_copy = list(first)
        second = steptimes.desk.answers(calls)
        self.assertEqual(second, first_copy)
        self.assertIsNot(first, second)

    def test_nothing_is_kept(self):
        steptimes.desk.answers(net("step a\nnature start a 1 3\n") + SURE)
        self.assertEqual(steptimes.desk.answers(STEPS + PRINT + SURE + wait(0, 0)),
                         [9, 0, 1, 0, 5, 115, 116, 97, 114, 116, 2, 0, 0, 3, 0, 1, 0, 1, -1])

    def test_whole_numbers_alone(self):
        calls = net("step a\nnature start a 1 3\n") + STEPS + WEAK + SURE + bound(1, 0) + wait(0, 1) + far(0, 1)
        self.assertEqual({type(number) for number in steptimes.desk.answers(calls)}, {int})


if __name__ == "__main__":
    unittest.main()
