"""What is told of a net itself: its text and its steps."""

from steptimes.wording import BLANK
from steptimes.wording import LIMIT_WORD
from steptimes.wording import LINE_END
from steptimes.wording import NATURE_WORD
from steptimes.wording import STEP_WORD
from steptimes.wording import word_of


def net_text(net):
    """The bytes of the net's lines, from which the same net can be read."""
    text = []
    for name in net.names[1:]:
        text.extend(line_of([STEP_WORD, name]))
    for limit in net.limits:
        text.extend(pair_line(LIMIT_WORD, net.names[limit.first], net.names[limit.second], limit.least, limit.most))
    for nature in net.natures:
        text.extend(pair_line(NATURE_WORD, net.names[nature.cause], net.names[nature.own], nature.lo, nature.hi))
    return text


def pair_line(first_word, first_name, second_name, low, high):
    return line_of([first_word, first_name, second_name, word_of(low), word_of(high)])


def line_of(words):
    line = list(words[0])
    for word in words[1:]:
        line.append(BLANK)
        line.extend(word)
    line.append(LINE_END)
    return line


def step_rows(net):
    """For each step whether it's a nature's own (1 or 0), how many bytes its name has, and they."""
    row = []
    for step, name in enumerate(net.names):
        row.append(1 if net.is_own(step) else 0)
        row.append(len(name))
        row.extend(name)
    return row
