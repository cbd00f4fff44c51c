"""Lists of many calls of all kinds on one object, made by chance and compared with the model."""

import random
import unittest

from tests import reference
from tests.model import Model
from tests.nets import likely_net, some_net
from tests.talk import BEGIN, KEPT, PRINT, STATE, STEPS, SURE, WEAK, ask, net, text_of
from tests.talk import bound, far, game, idle, iflimit, tick, tightest, wait

HUGE = 10 ** 18


class Talk:
    """Calls as they come, with what the model answers to each."""

    def __init__(self, chance):
        self.chance = chance
        self.model = Model()
        self.calls = []
        self.expected = []

    def say(self, call):
        self.calls.append(call)
        self.expected.append(self.model.answer(call))

    def say_net(self, wrong):
        some = self.some_net()
        text = text_of(*some)
        if wrong:
            self.calls.append(net(text + "wrong"))
            self.expected.append([1, text.count("\n") + 1, 1])
        else:
            self.calls.append(net(text))
            self.expected.append(self.model.take_net(*some))

    def some_net(self):
        if self.chance.random() < 0.2:
            return some_net(self.chance, 5, 2, 3, 4)
        steps = self.chance.randint(2, 8)
        return likely_net(self.chance, steps, self.chance.randint(0, min(3, steps - 1)), 4, 6)

    def step(self):
        if self.chance.random() < 0.1:
            return self.chance.choice([-1, self.model.steps, 12, HUGE, -HUGE])
        return self.chance.randrange(self.model.steps)

    def move(self):
        """What nature does at the coming tick: mostly something that it may."""
        if self.model.times is None or self.chance.random() < 0.2:
            return [self.step() for _ in range(self.chance.randint(0, 3))]
        may, must = reference.nature_moves(self.model.natures, self.model.times, self.model.now + 1)
        return must + [c for c in may if self.chance.random() < 0.4]

    def some_call(self):
        return self.chance.choice([
            WEAK, SURE, BEGIN, STATE, KEPT,
            bound(self.step(), self.step()), wait(self.chance.randint(-1, 3), self.step()), far(self.step(), self.step()),
            iflimit(self.step(), self.step(), self.chance.choice([0, -1, 3, self.chance.randint(-20, 20), -12001, HUGE])),
            idle(self.chance.choice([0, 1, 2, 5, 300, 301, -HUGE])),
        ] + [tick(*self.move()) for _ in range(5)])


class Mixed(unittest.TestCase):
    def run_talk(self, talk):
        self.assertEqual(ask(*talk.calls), talk.expected, talk.calls)

    def test_any_calls(self):
        chance = random.Random(21)
        for _ in range(400):
            talk = Talk(chance)
            for _ in range(60):
                if chance.random() < 0.08:
                    talk.say_net(wrong=chance.random() < 0.4)
                else:
                    talk.say(talk.some_call())
            self.run_talk(talk)

    def test_tightest_and_game_among_them(self):
        chance = random.Random(22)
        for _ in range(60):
            talk = Talk(chance)
            talk.say_net(wrong=False)
            for _ in range(4):
                talk.say(talk.some_call())
                if talk.model.steps <= 5:
                    talk.say(tightest(talk.step(), talk.step()))
                if talk.model.steps <= 4:
                    talk.say(game(chance.randint(-1, 5)))
            self.run_talk(talk)

    def test_nothing_that_only_asks_changes_anything(self):
        chance = random.Random(23)
        for _ in range(40):
            talk = Talk(chance)
            talk.say_net(wrong=False)
            talk.say(BEGIN)
            talk.say(tick(*talk.move()))
            looks = [PRINT, STEPS, WEAK, SURE, STATE, KEPT]
            asked = [tightest(0, 1), game(4), iflimit(0, 1, 3), iflimit(1, 0, -3), tightest(0, 0), game(9), iflimit(0, 1, HUGE)]
            told = ask(*talk.calls, *looks, *asked, *looks)
            self.assertEqual(told[3:9], told[-6:])

    def test_the_longest_list(self):
        # 400 calls: 40 of tightest, 6 of game, 200 of those that are counted together, the rest others.
        text = text_of(6, [(1, 2, 0, 4), (2, 3, 1, None), (0, 4, 2, 9)], [(0, 1, 1, 3), (3, 5, 2, 2)])
        counted = [SURE, bound(2, 0), wait(0, 2), BEGIN, tick(), tick(1), idle(3), iflimit(0, 3, 9)] * 25
        calls = [net(text)] + [tightest(0, 3)] * 40 + [game(8)] * 6 + counted + [STATE] * 100 + [KEPT] * 53
        self.assertEqual(len(calls), 400)
        told = ask(*calls)
        model = Model()
        model.take_net(6, [(1, 2, 0, 4), (2, 3, 1, None), (0, 4, 2, 9)], [(0, 1, 1, 3), (3, 5, 2, 2)])
        self.assertEqual(told[1:41], [model.tightest(0, 3)] * 40)
        self.assertEqual(told[41:47], [[0, 1]] * 6)
        self.assertEqual(told[47:], [model.answer(call) for call in calls[47:]])


if __name__ == "__main__":
    unittest.main()
