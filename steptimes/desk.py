"""The calls on one object, and their answers."""

from steptimes.bounding import weak_bounds
from steptimes.forms import judge
from steptimes.gaming import can_be_won
from steptimes.nets import Net
from steptimes.playing import Play
from steptimes.reading import read_net
from steptimes.showing import net_text
from steptimes.showing import step_rows
from steptimes.tightening import LEAST_MORE
from steptimes.tightening import MOST_MORE
from steptimes.tightening import is_sure_with
from steptimes.tightening import tightest

NET = 0
PRINT = 1
STEPS = 2
WEAK = 3
SURE = 4
BOUND = 5
WAIT = 6
FAR = 7
TIGHTEST = 8
GAME = 9
BEGIN = 10
TICK = 11
IDLE = 12
STATE = 13
KEPT = 14
# By a call's number: how many whole numbers it has, and how many rows behind them.
HOW_MANY_NUMBERS = (0, 0, 0, 0, 0, 2, 2, 2, 2, 1, 0, 0, 1, 0, 0, 3)
HOW_MANY_ROWS = (1, 0, 0, 0, 0, 0, 0, 0, 0, 0, 0, 1, 0, 0, 0, 0)

DONE = 0
WRONG_LINE = 1
NO_SUCH = -1
SAME = -2
NOT_KEPT = -3
NO_PLAY = -4
TOO_LARGE = -5
NOT_ALLOWED = -6

MOST_HORIZON = 8
MOST_GAME_STEPS = 6
MOST_IDLE_TICKS = 300


def answers(calls):
    """The answers to the calls, each with how many numbers it has before it."""
    desk = Desk()
    told = []
    place = 0
    while place < len(calls):
        call = calls[place]
        behind = place + 1 + HOW_MANY_NUMBERS[call]
        numbers = calls[place + 1:behind]
        row = []
        place = behind
        if HOW_MANY_ROWS[call] == 1:
            behind = place + 1 + calls[place]
            row = calls[place + 1:behind]
            place = behind
        answer = desk.answer(call, numbers, row)
        told.append(len(answer))
        told.extend(answer)
    return told


def told_bound(bound):
    """A bound as it stands in an answer."""
    return [0] if bound is None else [1, bound]


def told_list(row):
    """A list as it stands in an answer."""
    return [len(row)] + row


def told_truth(truth):
    """Whether something holds, as it stands in an answer."""
    return 1 if truth else 0


class Desk:
    """One object: its net, what was found of it once it was asked, and the play that is on, if one is."""

    def __init__(self):
        self.net = Net()
        # What judge tells of the net: long to find, so it's kept till the net changes.
        self.judgement = None
        # A play is on only where the net is surely kept, for begin asks that and a new net ends the play.
        # So the calls that go on with a play needn't ask it again.
        self.play = None

    def answer(self, call, numbers, row):
        if call == NET:
            return self.take_net(row)
        if call == PRINT:
            return self.show_text()
        if call == STEPS:
            return [DONE, len(self.net.names)] + step_rows(self.net)
        if call == WEAK:
            return [DONE, told_truth(weak_bounds(self.net) is not None)]
        if call == SURE:
            return self.tell_sure()
        if call == BOUND:
            return self.tell_bound(numbers[0], numbers[1])
        if call == WAIT:
            return self.tell_wait(numbers[0], numbers[1])
        if call == FAR:
            return self.tell_far(numbers[0], numbers[1])
        if call == TIGHTEST:
            return self.tell_tightest(numbers[0], numbers[1])
        if call == GAME:
            return self.tell_game(numbers[0])
        return self.answer_further(call, numbers, row)

    def answer_further(self, call, numbers, row):
        if call == BEGIN:
            return self.begin_play()
        if call == TICK:
            return self.pass_tick_with(row)
        if call == IDLE:
            return self.idle_on(numbers[0])
        if call == STATE:
            return self.tell_state()
        if call == KEPT:
            return self.tell_kept()
        # What is left is iflimit.
        return self.tell_if_limit(numbers[0], numbers[1], numbers[2])

    def take_net(self, text):
        reading = read_net(text)
        if reading.net is None:
            return [WRONG_LINE, reading.wrong_line, reading.reason]
        self.net = reading.net
        self.judgement = None
        self.play = None
        return [DONE]

    def show_text(self):
        return [DONE] + told_list(net_text(self.net))

    def judged(self):
        if self.judgement is None:
            self.judgement = judge(self.net)
        return self.judgement

    def tell_sure(self):
        judgement = self.judged()
        return [DONE, 0] if judgement.form is None else [DONE, 1, judgement.earlier]

    def refuse_steps(self, i, j):
        """The refusal that two steps are due, or DONE."""
        if not self.net.has_step(i) or not self.net.has_step(j):
            return NO_SUCH
        return SAME if i == j else DONE

    def tell_bound(self, i, j):
        refusal = self.refuse_steps(i, j)
        if refusal != DONE:
            return [refusal]
        form = self.judged().form
        return [NOT_KEPT] if form is None else [DONE] + told_bound(form.bounds[i][j])

    def tell_wait(self, k, i):
        if not self.net.has_nature(k) or not self.net.has_step(i):
            return [NO_SUCH]
        form = self.judged().form
        return [NOT_KEPT] if form is None else [DONE] + told_bound(form.waits[k][i])

    def tell_far(self, i, j):
        refusal = self.refuse_steps(i, j)
        if refusal != DONE:
            return [refusal]
        bounds = weak_bounds(self.net)
        return [NOT_KEPT] if bounds is None else [DONE] + told_bound(bounds[i][j])

    def tell_tightest(self, i, j):
        refusal = self.refuse_steps(i, j)
        if refusal != DONE:
            return [refusal]
        if self.judged().form is None:
            return [NOT_KEPT]
        return [DONE] + told_bound(tightest(self.net, i, j))

    def tell_if_limit(self, i, j, w):
        refusal = self.refuse_steps(i, j)
        if refusal != DONE:
            return [refusal]
        if not LEAST_MORE <= w <= MOST_MORE:
            return [NO_SUCH]
        return [DONE, told_truth(is_sure_with(self.net, i, j, w))]

    def tell_game(self, horizon):
        if not 0 <= horizon <= MOST_HORIZON:
            return [NO_SUCH]
        if len(self.net.names) > MOST_GAME_STEPS:
            return [TOO_LARGE]
        return [DONE, told_truth(can_be_won(self.net, horizon))]

    def begin_play(self):
        form = self.judged().form
        if form is None:
            return [NOT_KEPT]
        self.play = Play(self.net, form)
        return [DONE] + told_list(self.play.move_desk())

    def pass_tick_with(self, steps):
        if self.play is None:
            return [NO_PLAY]
        if not all([self.net.has_step(step) for step in steps]):
            return [NO_SUCH]
        if not self.play.is_nature_allowed(steps):
            return [NOT_ALLOWED]
        done = self.play.pass_tick(steps)
        return [DONE, self.play.tick] + told_list(done)

    def idle_on(self, most_ticks):
        if self.play is None:
            return [NO_PLAY]
        if not 1 <= most_ticks <= MOST_IDLE_TICKS:
            return [NO_SUCH]
        done = self.play.pass_idly(most_ticks)
        return [DONE, self.play.tick] + told_list(done)

    def tell_state(self):
        if self.play is None:
            return [NO_PLAY]
        return [DONE, self.play.tick] + self.play.told_times()

    def tell_kept(self):
        if self.play is None:
            return [NO_PLAY]
        return [DONE, told_truth(self.play.is_ended()), told_truth(self.play.is_kept_so_far())]
