"""How the tests talk with the program: calls laid in one list, answers taken out of one list."""

from steptimes.desk import answers

PRINT = [1]
STEPS = [2]
WEAK = [3]
SURE = [4]
BEGIN = [10]
STATE = [13]
KEPT = [14]


def net(text):
    row = list(text if isinstance(text, bytes) else text.encode("latin-1"))
    return [0, len(row)] + row


def bound(i, j):
    return [5, i, j]


def wait(k, i):
    return [6, k, i]


def far(i, j):
    return [7, i, j]


def tightest(i, j):
    return [8, i, j]


def game(h):
    return [9, h]


def tick(*c):
    return [11, len(c)] + list(c)


def idle(m):
    return [12, m]


def iflimit(i, j, w):
    return [15, i, j, w]


def ask(*calls):
    """The answers to the calls, one list each; on the way it's seen that nothing handed in was changed."""
    laid = [number for call in calls for number in call]
    before = list(laid)
    told = answers(laid)
    if laid != before:
        raise AssertionError("what was handed in was changed")
    if type(told) is not list or any(type(number) is not int for number in told):
        raise AssertionError("an answer is not a list of whole numbers")
    rows = split_answers(told)
    if len(rows) != len(calls):
        raise AssertionError("not one answer for each call")
    return rows


def split_answers(told):
    rows = []
    place = 0
    while place < len(told):
        behind = place + 1 + told[place]
        rows.append(told[place + 1:behind])
        place = behind
    if place != len(told):
        raise AssertionError("an answer's count is not right")
    return rows


def text_of(steps, limits, natures):
    """A net's text: how many steps, and rows (a, b, LEAST, MOST) and (a, c, LO, HI), where None is missing."""
    def name(step):
        return "start" if step == 0 else f"s{step}"

    def word(number):
        return "-" if number is None else str(number)

    lines = [f"step {name(step)}" for step in range(1, steps)]
    lines += [f"limit {name(a)} {name(b)} {word(least)} {word(most)}" for a, b, least, most in limits]
    lines += [f"nature {name(a)} {name(c)} {lo} {hi}" for a, c, lo, hi in natures]
    return "".join(line + "\n" for line in lines)
