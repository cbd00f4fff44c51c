"""From a net's text to the net, or to its first wrong line."""

from steptimes.nets import MOST_LIMITS
from steptimes.nets import MOST_NATURES
from steptimes.nets import MOST_STEPS
from steptimes.nets import Limit
from steptimes.nets import Nature
from steptimes.nets import Net
from steptimes.wording import BLANK
from steptimes.wording import HASH
from steptimes.wording import LIMIT_WORD
from steptimes.wording import LINE_END
from steptimes.wording import NATURE_WORD
from steptimes.wording import STEP_WORD
from steptimes.wording import is_name
from steptimes.wording import is_ticks
from steptimes.wording import is_ticks_or_missing
from steptimes.wording import split_at
from steptimes.wording import ticks_of

RIGHT = 0
NO_SUCH_LINE = 1
TOLD_ALREADY = 2
NOT_KNOWN = 3
TOO_MANY = 4
SENSELESS = 5


class Reading:
    """The net; or None, the first wrong line's number and its reason."""

    def __init__(self, net, wrong_line, reason):
        self.net = net
        self.wrong_line = wrong_line
        self.reason = reason


def read_net(text):
    """Read line by line till one is wrong or all are taken."""
    net = Net()
    # A text that ends with byte 10 leaves one part without bytes behind it: it means nothing.
    for number, line in enumerate(split_at(text, LINE_END), start=1):
        reason = take_line(net, line)
        if reason != RIGHT:
            return Reading(None, number, reason)
    return Reading(net, 0, RIGHT)


def take_line(net, line):
    """Put into the net what a line tells; gives the reason if it's wrong, and then puts nothing."""
    if len(line) == 0 or line[0] == HASH:
        return RIGHT
    words = split_at(line, BLANK)
    if is_step_line(words):
        return take_step(net, words[1])
    if is_limit_line(words):
        return take_limit(net, words)
    if is_nature_line(words):
        return take_nature(net, words)
    return NO_SUCH_LINE


def is_step_line(words):
    return len(words) == 2 and words[0] == STEP_WORD and is_name(words[1])


def is_limit_line(words):
    if not is_pair_line(words, LIMIT_WORD):
        return False
    return is_ticks_or_missing(words[3]) and is_ticks_or_missing(words[4])


def is_nature_line(words):
    return is_pair_line(words, NATURE_WORD) and is_ticks(words[3]) and is_ticks(words[4])


def is_pair_line(words, first_word):
    return len(words) == 5 and words[0] == first_word and is_name(words[1]) and is_name(words[2])


def take_step(net, name):
    if name in net.names:
        return TOLD_ALREADY
    if len(net.names) >= MOST_STEPS:
        return TOO_MANY
    net.names.append(name)
    return RIGHT


def take_limit(net, words):
    if not are_known(net, words):
        return NOT_KNOWN
    limit = Limit(net.names.index(words[1]), net.names.index(words[2]), ticks_of(words[3]), ticks_of(words[4]))
    if is_senseless_limit(limit):
        return SENSELESS
    if len(net.limits) >= MOST_LIMITS:
        return TOO_MANY
    net.limits.append(limit)
    return RIGHT


def take_nature(net, words):
    if not are_known(net, words):
        return NOT_KNOWN
    nature = Nature(net.names.index(words[1]), net.names.index(words[2]), ticks_of(words[3]), ticks_of(words[4]))
    if is_senseless_nature(net, nature):
        return SENSELESS
    if len(net.natures) >= MOST_NATURES:
        return TOO_MANY
    net.natures.append(nature)
    return RIGHT


def are_known(net, words):
    return words[1] in net.names and words[2] in net.names


def is_senseless_limit(limit):
    if limit.first == limit.second:
        return True
    return limit.least is not None and limit.most is not None and limit.most < limit.least


def is_senseless_nature(net, nature):
    if nature.cause == nature.own or nature.own == 0 or net.is_own(nature.own):
        return True
    return nature.lo == 0 or nature.hi < nature.lo
