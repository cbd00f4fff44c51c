"""net: which texts are taken, and for which reason a line is wrong."""

import unittest

from tests.talk import PRINT, STEPS, ask, net

TAKEN = [0]
TWO_STEPS = "step a\nstep b\n"
TEN_STEPS = "".join(f"step s{i}\n" for i in range(1, 11))
ELEVEN_STEPS = TEN_STEPS + "step s11\n"
FORTY_LIMITS = TWO_STEPS + "limit a b 1 2\n" * 40
FIVE_NATURES = ELEVEN_STEPS + "".join(f"nature start s{i} 1 2\n" for i in range(1, 6))
LETTERS = list(range(65, 91)) + list(range(97, 123))
DIGITS = list(range(48, 58))


def taken(text):
    return ask(net(text))[0]


class NetCase(unittest.TestCase):
    def check_taken(self, text):
        with self.subTest(text=text):
            self.assertEqual(taken(text), TAKEN)

    def check_wrong(self, text, line, reason):
        with self.subTest(text=text):
            self.assertEqual(taken(text), [1, line, reason])

    def check_last_wrong(self, before, line, reason):
        """The line alone is wrong, behind lines that are right; its own end may be missing."""
        self.assertEqual(taken(before), TAKEN)
        self.check_wrong(before + line, before.count("\n") + 1, reason)
        self.check_wrong(before + line + "\n", before.count("\n") + 1, reason)


class Lines(NetCase):
    def test_no_text(self):
        self.check_taken("")

    def test_lines_that_mean_nothing(self):
        for text in ["\n", "\n\n\n", "#", "#\n", "# step\n#step start", "#\x00\xff  \r\n", "##\n\nstep a\n\n#"]:
            self.check_taken(text)

    def test_last_end_may_be_missing(self):
        self.check_taken("step a")
        self.check_taken("step a\n")
        self.assertEqual(ask(net("step a"), STEPS), ask(net("step a\n"), STEPS))

    def test_all_lines_are_counted(self):
        self.check_wrong("\n#x\n\nstep a\n#\nstep a\n", 6, 2)
        self.check_wrong("\n\n\nx", 4, 1)

    def test_first_wrong_line_is_told(self):
        self.check_wrong("step a\nstep start\nlimit a a 1 2\nwhat\n", 2, 2)
        self.check_wrong("step a\nlimit a b 1 2\nstep b\n", 2, 3)

    def test_longest_text(self):
        self.check_taken("#" * 2000)
        self.check_taken("\n" * 2000)
        self.check_wrong("\n" * 1999 + "x", 2000, 1)
        self.check_wrong("limit a b 1 " + "1" * 1988, 1, 1)


class NoneOfThese(NetCase):
    def test_blanks(self):
        for line in [" ", "step  c", " step c", "step c ", "step c  ", "step\tc", "limit a  b 1 2", "limit a b 1 2 ",
                     " limit a b 1 2", "nature a b  1 2", "nature a b 1 2 ", " #", " # x"]:
            self.check_last_wrong(TWO_STEPS, line, 1)

    def test_words(self):
        for line in ["x", "step", "step c d", "Step c", "STEP c", "steps c", "ste c", "c", "a b 1 2", "limit", "limit a b",
                     "limit a b 1", "limit a b 1 2 3", "Limit a b 1 2", "limits a b 1 2", "nature", "nature a b 1",
                     "nature a b 1 2 3", "natur a b 1 2", "step a b 1 2", "limit a", "nature a"]:
            self.check_last_wrong(TWO_STEPS, line, 1)

    def test_names(self):
        for name in ["1", "1c", "abcdefghi", "c_", "c-", "c.", "-", "c#", "#", "\xe4", "c\xe4", "c\r", "\x00", "c\x00"]:
            self.check_last_wrong(TWO_STEPS, f"step {name}", 1)
            for word in ["limit", "nature"]:
                self.check_last_wrong(TWO_STEPS, f"{word} {name} b 1 2", 1)
                self.check_last_wrong(TWO_STEPS, f"{word} a {name} 1 2", 1)

    def test_numbers(self):
        for number in ["01", "00", "0000", "010", "1001", "1002", "9999", "10000", "01000", "-1", "--", "+1", "1-", "x",
                       "1x", "x1", "1.", "\xb2", "1\r", "1" * 40]:
            for word in ["limit", "nature"]:
                self.check_last_wrong(TWO_STEPS, f"{word} a b {number} 1000", 1)
                self.check_last_wrong(TWO_STEPS, f"{word} a b 1 {number}", 1)

    def test_nature_misses_no_number(self):
        for numbers in ["- 2", "1 -", "- -"]:
            self.check_last_wrong(TWO_STEPS, f"nature a b {numbers}", 1)

    def test_comes_before_all_other_reasons(self):
        self.check_last_wrong(TWO_STEPS, "step start ", 1)
        self.check_last_wrong(ELEVEN_STEPS, "step 12", 1)
        self.check_last_wrong(TWO_STEPS, "limit a a 2 01", 1)
        self.check_last_wrong(TWO_STEPS, "limit y z 2 01", 1)
        self.check_last_wrong(FORTY_LIMITS, "limit a b 1 1001", 1)
        self.check_last_wrong(TWO_STEPS, "nature a start 0 -", 1)
        self.check_last_wrong(FIVE_NATURES, "nature y z 1 2000", 1)


class Bytes(NetCase):
    def check_byte(self, before, byte, behind, right):
        text = before + bytes([byte]) + behind
        with self.subTest(text=text):
            self.assertEqual(taken(text)[0], 0 if byte in right else 1)

    def test_every_byte(self):
        for byte in range(256):
            self.check_byte(b"", byte, b"", [10, 35])
            self.check_byte(b"#", byte, b"", range(256))
            self.check_byte(b"step ", byte, b"", LETTERS)
            self.check_byte(b"step a", byte, b"", LETTERS + DIGITS + [10])
            self.check_byte(b"step a", byte, b"b", LETTERS + DIGITS)
            self.check_byte(b"step", byte, b"a", [32])
            self.check_byte(b"step a\nlimit start a ", byte, b" -", DIGITS + [45])
            self.check_byte(b"step a\nlimit start a - ", byte, b"", DIGITS + [45])
            self.check_byte(b"step a\nnature start a ", byte, b" 9", range(49, 58))
            self.check_byte(b"step a\nnature start a 1 ", byte, b"", range(49, 58))
            self.check_byte(b"step a\nnature start a 1 1", byte, b"", DIGITS + [10])


class StepLines(NetCase):
    def test_names(self):
        for name in ["a", "Z", "a1", "A9z", "abcdefgh", "Abcdef78", "step", "limit", "nature", "Start", "startx", "star"]:
            self.check_taken(f"step {name}\n")

    def test_letters_are_told_apart(self):
        self.check_taken("step a\nstep A\nstep aa\n")

    def test_told_already(self):
        self.check_last_wrong("", "step start", 2)
        self.check_last_wrong(TWO_STEPS, "step a", 2)
        self.check_last_wrong(TWO_STEPS, "step b", 2)

    def test_twelve_and_one_more(self):
        self.check_taken(ELEVEN_STEPS)
        self.assertEqual(ask(net(ELEVEN_STEPS), STEPS)[1][:2], [0, 12])
        self.check_last_wrong(ELEVEN_STEPS, "step s12", 4)
        self.check_taken(TEN_STEPS + "step x")

    def test_told_already_comes_before_twelve(self):
        self.check_last_wrong(ELEVEN_STEPS, "step s11", 2)
        self.check_last_wrong(ELEVEN_STEPS, "step start", 2)


class LimitLines(NetCase):
    def test_numbers(self):
        for numbers in ["0 0", "0 1000", "1000 1000", "10 100", "7 7", "- 0", "- 1000", "0 -", "1000 -", "- -"]:
            self.check_taken(TWO_STEPS + f"limit a b {numbers}\n")

    def test_start_on_both_sides(self):
        self.check_taken("step a\nlimit start a 1 2\nlimit a start 1 2\n")

    def test_not_known(self):
        for line in ["limit a c 1 2", "limit c a 1 2", "limit c d 1 2", "limit a A 1 2", "limit a Start 1 2"]:
            self.check_last_wrong(TWO_STEPS, line, 3)

    def test_senseless(self):
        for line in ["limit a a 1 2", "limit a a - -", "limit start start 0 0", "limit a b 1 0", "limit a b 1000 999",
                     "limit a b 10 9"]:
            self.check_last_wrong(TWO_STEPS, line, 5)

    def test_forty_and_one_more(self):
        self.check_taken(FORTY_LIMITS)
        for line in ["limit a b 1 2", "limit b start - -"]:
            self.check_last_wrong(FORTY_LIMITS, line, 4)
        self.check_taken(FORTY_LIMITS + "step c\nnature a c 1 2\n")

    def test_order_of_reasons(self):
        self.check_last_wrong(TWO_STEPS, "limit c c 2 1", 3)
        self.check_last_wrong(TWO_STEPS, "limit a c 2 1", 3)
        self.check_last_wrong(FORTY_LIMITS, "limit a c 1 2", 3)
        self.check_last_wrong(FORTY_LIMITS, "limit a a 1 2", 5)
        self.check_last_wrong(FORTY_LIMITS, "limit a b 2 1", 5)


class NatureLines(NetCase):
    def test_numbers(self):
        for numbers in ["1 1", "1 1000", "1000 1000", "9 10", "99 100"]:
            self.check_taken(TWO_STEPS + f"nature a b {numbers}\n")

    def test_start_begins_one(self):
        self.check_taken("step a\nnature start a 1 2\n")

    def test_one_step_begins_two_and_an_own_one_begins_one(self):
        self.check_taken(TWO_STEPS + "step c\nnature start a 1 2\nnature start b 1 2\nnature a c 1 2\n")

    def test_natures_in_a_circle_are_a_net(self):
        self.check_taken(TWO_STEPS + "nature a b 1 2\nnature b a 1 2\n")

    def test_not_known(self):
        for line in ["nature a c 1 2", "nature c a 1 2", "nature c d 1 2", "nature A b 1 2"]:
            self.check_last_wrong(TWO_STEPS, line, 3)

    def test_senseless(self):
        for line in ["nature a a 1 2", "nature start start 1 2", "nature a start 1 2", "nature a b 0 2", "nature a b 0 0",
                     "nature a b 2 1", "nature a b 1 0", "nature a b 1000 999", "nature a b 10 9"]:
            self.check_last_wrong(TWO_STEPS, line, 5)

    def test_own_one_of_two(self):
        for line in ["nature start b 1 2", "nature a b 1 2"]:
            self.check_last_wrong(TWO_STEPS + "nature a b 1 2\n", line, 5)

    def test_five_and_one_more(self):
        self.check_taken(FIVE_NATURES)
        self.check_last_wrong(FIVE_NATURES, "nature start s6 1 2", 4)
        self.check_taken(FIVE_NATURES + "limit start s6 1 2\n")

    def test_order_of_reasons(self):
        for line in ["nature c c 1 2", "nature c start 1 2", "nature c b 0 2", "nature a c 2 1"]:
            self.check_last_wrong(TWO_STEPS, line, 3)
        for line in ["nature start c 1 2", "nature c s6 1 2"]:
            self.check_last_wrong(FIVE_NATURES, line, 3)
        for line in ["nature s6 s6 1 2", "nature s6 start 1 2", "nature start s5 1 2", "nature start s6 0 2",
                     "nature start s6 2 1"]:
            self.check_last_wrong(FIVE_NATURES, line, 5)


class WhatANetChanges(unittest.TestCase):
    def test_a_wrong_net_changes_nothing(self):
        first = "step a\nlimit start a 1 2\nnature start a 1 2\n"
        for wrong in ["step b\nstep b\n", "x", "step b\nlimit start b 1 2\nlimit b b 1 2\n"]:
            told = ask(net(first), PRINT, STEPS, [4], [7, 0, 1], net(wrong), PRINT, STEPS, [4], [7, 0, 1])
            self.assertEqual(told[5][0], 1)
            self.assertEqual(told[1:5], told[6:10])

    def test_a_net_takes_the_place_of_the_one_before(self):
        told = ask(net("step a\nnature start a 1 2\n"), [4], net("step b\n"), PRINT, [4], [6, 0, 0], net(""), STEPS)
        self.assertEqual(told[3], [0, 7] + list(b"step b\n"))
        self.assertEqual(told[5], [-1])
        self.assertEqual(told[7], [0, 1, 0, 5] + list(b"start"))


if __name__ == "__main__":
    unittest.main()
