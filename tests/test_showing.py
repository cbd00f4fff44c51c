"""print and steps."""

import random
import unittest

from tests.nets import some_net
from tests.talk import PRINT, STEPS, ask, net, text_of


def printed(text):
    told = ask(net(text), PRINT)
    if told[0] != [0]:
        raise AssertionError("the net was not taken")
    return told[1]


def as_answer(text):
    return [0, len(text)] + list(text.encode("ascii"))


class Print(unittest.TestCase):
    def test_new_object(self):
        self.assertEqual(ask(PRINT), [[0, 0]])

    def test_net_without_lines(self):
        self.assertEqual(printed(""), [0, 0])
        self.assertEqual(printed("#\n\n"), [0, 0])

    def test_lines_go_by_kind_each_in_the_order_told(self):
        text = ("# x\nstep b\nnature start b 1 2\nstep a\n\nlimit b a - 3\nlimit start a 0 -\nstep C9\nnature a C9 10 1000\n"
                "limit a b - -\nlimit b a - 3")
        self.assertEqual(printed(text), as_answer(
            "step b\nstep a\nstep C9\nlimit b a - 3\nlimit start a 0 -\nlimit a b - -\nlimit b a - 3\n"
            "nature start b 1 2\nnature a C9 10 1000\n"))

    def test_numbers(self):
        for numbers in ["0 0", "0 1000", "1000 1000", "9 10", "99 100", "999 1000", "- 0", "0 -", "- -"]:
            self.assertEqual(printed(f"step a\nlimit a start {numbers}"), as_answer(f"step a\nlimit a start {numbers}\n"))

    def test_longest(self):
        text = "step abcdefgh\n" + "limit start abcdefgh 1000 1000\n" * 40
        self.assertEqual(printed(text), as_answer(text))

    def test_net_takes_it_again(self):
        chance = random.Random(1)
        for _ in range(200):
            text = text_of(*some_net(chance, 12, 5, 20, 1000))
            told = ask(net(text), PRINT, STEPS)
            self.assertEqual(told[1], as_answer(text))
            again = ask([0] + told[1][1:], PRINT, STEPS)
            self.assertEqual(again, told)


class Steps(unittest.TestCase):
    def test_new_object(self):
        self.assertEqual(ask(STEPS), [[0, 1, 0, 5] + list(b"start")])

    def test_order_names_and_owns(self):
        text = "step abcdefgh\nstep Z9\nstep q\nnature q abcdefgh 1 2\nnature start q 3 4\n"
        self.assertEqual(ask(net(text), STEPS)[1], [0, 4, 0, 5] + list(b"start") + [1, 8] + list(b"abcdefgh")
                         + [0, 2] + list(b"Z9") + [1, 1] + list(b"q"))


if __name__ == "__main__":
    unittest.main()
