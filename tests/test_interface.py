"""How calls and answers are laid in lists, and that nothing is changed or kept."""

import unittest

import steptimes.desk
from tests.talk import BEGIN, KEPT, PRINT, STATE, STEPS, SURE, WEAK, ask, bound, far, game, idle, iflimit, net, tick, tightest, wait


class Interface(unittest.TestCase):
    def test_several_calls_in_one_list(self):
        text = list(b"step a\nnature start a 1 3\n")
        wrong = list(b"step b\n\nstep b")
        calls = [0, 26] + text + [3, 4, 5, 1, 0, 5, 1, 1, 6, 0, 0, 6, 0, 1, 7, 0, 1, 0, 14] + wrong + [2, 1]
        self.assertEqual(steptimes.desk.answers(calls), [
            1, 0,
            2, 0, 1,
            3, 0, 1, 0,
            3, 0, 1, -1,
            1, -2,
            2, 0, 0,
            3, 0, 1, -3,
            3, 0, 1, 3,
            3, 1, 3, 2,
            12, 0, 2, 0, 5, 115, 116, 97, 114, 116, 1, 1, 97,
            28, 0, 26,
        ] + text)

    def test_the_other_calls_in_one_list(self):
        text = list(b"step a\nstep b\nnature start a 1 3\nlimit a b 0 0\n")
        calls = [0, len(text)] + text + [8, 0, 2, 9, 3, 13, 10, 13, 12, 1, 11, 1, 1, 13, 14, 11, 0, 15, 2, 0, -4]
        calls += [15, 2, 0, -1, 11, 2, 1, 9, 12, 300, 14, 0, 0, 14, 8, 0, 1]
        self.assertEqual(steptimes.desk.answers(calls), [
            1, 0,
            3, 0, 1, 3,
            2, 0, 1,
            1, -4,
            2, 0, 0,
            5, 0, 0, 0, -1, -1,
            3, 0, 1, 0,
            4, 0, 2, 1, 2,
            5, 0, 2, 0, 2, 2,
            3, 0, 1, 1,
            3, 0, 3, 0,
            2, 0, 0,
            2, 0, 1,
            1, -1,
            3, 0, 303, 0,
            3, 0, 1, 1,
            1, 0,
            1, -4,
            1, -1,
        ])

    def test_rows_of_all_lengths(self):
        for length in range(21):
            self.assertEqual(steptimes.desk.answers([10, 11, length] + [0] * length + [4]),
                             [2, 0, 0] + ([3, 0, 1, 0] if length == 0 else [1, -6]) + [3, 0, 1, 0])

    def test_text_that_looks_like_calls(self):
        self.assertEqual(steptimes.desk.answers([0, 3, 35, 4, 0, 3]), [1, 0, 2, 0, 1])
        self.assertEqual(steptimes.desk.answers([0, 0, 0, 1, 7, 0, 0]), [1, 0, 3, 1, 1, 1, 1, 0])

    def test_four_hundred_calls(self):
        calls = net("step a\nlimit start a 1 2\n") + far(0, 1) * 399
        self.assertEqual(steptimes.desk.answers(calls), [1, 0] + [3, 0, 1, 2] * 399)

    def test_nothing_is_changed(self):
        calls = net("step a\nstep b\nnature start a 1 3\nlimit b a - 2\n") + SURE + bound(2, 0) + wait(0, 2) + far(2, 0)
        calls += net("x") + PRINT + STEPS + WEAK + tightest(0, 2) + game(8) + BEGIN + idle(2) + tick(1) + STATE + KEPT
        calls += iflimit(0, 2, 3) + tick(1, 1) + tick(9)
        before = list(calls)
        first = steptimes.desk.answers(calls)
        self.assertEqual(calls, before)
        first_copy = list(first)
        second = steptimes.desk.answers(calls)
        self.assertEqual(second, first_copy)
        self.assertIsNot(first, second)

    def test_nothing_is_kept(self):
        steptimes.desk.answers(net("step a\nnature start a 1 3\n") + SURE)
        self.assertEqual(steptimes.desk.answers(STEPS + PRINT + SURE + wait(0, 0)),
                         [9, 0, 1, 0, 5, 115, 116, 97, 114, 116, 2, 0, 0, 3, 0, 1, 0, 1, -1])
        steptimes.desk.answers(net("step a\nnature start a 1 3\n") + BEGIN + tick(1) + tightest(0, 1))
        self.assertEqual(steptimes.desk.answers(STATE + KEPT + tick() + idle(1) + game(0) + tightest(0, 1) + BEGIN + STATE),
                         [1, -4, 1, -4, 1, -4, 1, -4, 2, 0, 1, 1, -1, 2, 0, 0, 3, 0, 0, 0])

    def test_nothing_is_changed_by_a_play(self):
        # The same play twice in one list tells the same, and so do the calls that look at the net.
        text = "step a\nstep b\nstep c\nnature start a 1 3\nlimit b a - 1\nlimit a c 0 0\n"
        play = [BEGIN, tick(), STATE, idle(300), tick(1), KEPT, STATE, SURE, PRINT, bound(2, 0), wait(0, 2), tightest(0, 2)]
        told = ask(net(text), *play, *play, net(text), *play)
        self.assertEqual(told[1:13], told[13:25])
        self.assertEqual(told[1:13], told[26:])

    def test_whole_numbers_alone(self):
        calls = net("step a\nnature start a 1 3\n") + STEPS + WEAK + SURE + bound(1, 0) + wait(0, 1) + far(0, 1)
        calls += tightest(0, 1) + game(3) + game(2) + BEGIN + idle(1) + tick(1) + STATE + KEPT + iflimit(0, 1, 2) + iflimit(0, 1, 3)
        self.assertEqual({type(number) for number in steptimes.desk.answers(calls)}, {int})


if __name__ == "__main__":
    unittest.main()
