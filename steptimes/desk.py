"""The calls on one object, and their answers."""

from steptimes.bounding import weak_bounds
from steptimes.forms import judge
from steptimes.nets import Net
from steptimes.reading import read_net
from steptimes.showing import net_text
from steptimes.showing import step_rows

NET = 0
PRINT = 1
STEPS = 2
WEAK = 3
SURE = 4
BOUND = 5
WAIT = 6
# By a call's number: how many whole numbers it has, and how many rows behind them.
HOW_MANY_NUMBERS = (0, 0, 0, 0, 0, 2, 2, 2)
HOW_MANY_ROWS = (1, 0, 0, 0, 0, 0, 0, 0)

DONE = 0
WRONG_LINE = 1
NO_SUCH = -1
SAME = -2
NOT_KEPT = -3


def answers(calls):
    """The answers to the calls, each with how many numbers it has before it."""
    desk = Desk()
    told = []
    place = 0
    while place < len(calls):
        call = calls[place]
        behind = place + 1 + HOW_MANY_NUMBERS[call]
        numbers = calls[place + 1:behind]
        row = []
        place = behind
        if HOW_MANY_ROWS[call] == 1:
            behind = place + 1 + calls[place]
            row = calls[place + 1:behind]
            place = behind
        answer = desk.answer(call, numbers, row)
        told.append(len(answer))
        told.extend(answer)
    return told


def told_bound(bound):
    """A bound as it stands in an answer."""
    return [0] if bound is None else [1, bound]


class Desk:
    """One object: its net, and what was found of it once it was asked."""

    def __init__(self):
        self.net = Net()
        # What judge tells of the net: long to find, so it's kept till the net changes.
        self.judgement = None

    def answer(self, call, numbers, row):
        if call == NET:
            return self.take_net(row)
        if call == PRINT:
            return self.show_text()
        if call == STEPS:
            return [DONE, len(self.net.names)] + step_rows(self.net)
        if call == WEAK:
            return [DONE, 0 if weak_bounds(self.net) is None else 1]
        if call == SURE:
            return self.tell_sure()
        if call == BOUND:
            return self.tell_bound(numbers[0], numbers[1])
        if call == WAIT:
            return self.tell_wait(numbers[0], numbers[1])
        # What is left is far.
        return self.tell_far(numbers[0], numbers[1])

    def take_net(self, text):
        reading = read_net(text)
        if reading.net is None:
            return [WRONG_LINE, reading.wrong_line, reading.reason]
        self.net = reading.net
        self.judgement = None
        return [DONE]

    def show_text(self):
        text = net_text(self.net)
        return [DONE, len(text)] + text

    def judged(self):
        if self.judgement is None:
            self.judgement = judge(self.net)
        return self.judgement

    def tell_sure(self):
        judgement = self.judged()
        return [DONE, 0] if judgement.form is None else [DONE, 1, judgement.earlier]

    def refuse_steps(self, i, j):
        """The refusal that two steps are due, or DONE."""
        if not self.net.has_step(i) or not self.net.has_step(j):
            return NO_SUCH
        return SAME if i == j else DONE

    def tell_bound(self, i, j):
        refusal = self.refuse_steps(i, j)
        if refusal != DONE:
            return [refusal]
        form = self.judged().form
        return [NOT_KEPT] if form is None else [DONE] + told_bound(form.bounds[i][j])

    def tell_wait(self, k, i):
        if not self.net.has_nature(k) or not self.net.has_step(i):
            return [NO_SUCH]
        form = self.judged().form
        return [NOT_KEPT] if form is None else [DONE] + told_bound(form.waits[k][i])

    def tell_far(self, i, j):
        refusal = self.refuse_steps(i, j)
        if refusal != DONE:
            return [refusal]
        bounds = weak_bounds(self.net)
        return [NOT_KEPT] if bounds is None else [DONE] + told_bound(bounds[i][j])
