"""Forms: bounds and waits, made sharper round by round till they stay as they are."""

from steptimes.bounding import added
from steptimes.bounding import closed
from steptimes.bounding import copied
from steptimes.bounding import greater
from steptimes.bounding import has_ring
from steptimes.bounding import lesser
from steptimes.bounding import put_lesser
from steptimes.bounding import told_bounds

MOST_FORMS = 60


class Form:
    """Bounds as told_bounds lays them; waits in a row for each nature, with a place for each step."""

    def __init__(self, bounds, waits):
        self.bounds = bounds
        self.waits = waits


class Judgement:
    """The reduced form and how many forms were looked at before it; None and 0 if not surely kept."""

    def __init__(self, form, earlier):
        self.form = form
        self.earlier = earlier


def judge(net):
    """Look at the net's forms, from the first on, till one decides."""
    form = first_form(net)
    for earlier in range(MOST_FORMS):
        if has_ring(longest_bounds(net, form)):
            return Judgement(None, 0)
        following = next_form(net, form)
        if is_same(form, following):
            return Judgement(form, earlier)
        form = following
    return Judgement(None, 0)


def is_same(form, other):
    return form.bounds == other.bounds and form.waits == other.waits


def first_form(net):
    waits = []
    for nature in net.natures:
        waits.append([-nature.hi if step == nature.own else None for step in range(len(net.names))])
    return Form(told_bounds(net), waits)


def longest_bounds(net, form):
    bounds = copied(form.bounds)
    for k, nature in enumerate(net.natures):
        for i, wait in enumerate(form.waits[k]):
            put_lesser(bounds, i, nature.cause, wait)
    return bounds


def next_form(net, form):
    return shield(net, pass_on(net, close_form(net, form)))


def close_form(net, form):
    """Part 1 of a round."""
    bounds = closed(form.bounds)
    waits = []
    for k, nature in enumerate(net.natures):
        row = [least_wait(bounds_row, form.waits[k]) for bounds_row in bounds]
        row[nature.cause] = None
        waits.append(row)
    return Form(bounds, waits)


def least_wait(bounds_row, waits_row):
    least = None
    for bound, wait in zip(bounds_row, waits_row):
        least = lesser(least, added(bound, wait))
    return least


def pass_on(net, form):
    """Part 2 of a round: what a nature's own step has to keep is passed on to the step before it."""
    # Copies are lowered and the form is read, for all of this part happens at once.
    bounds = copied(form.bounds)
    waits = copied(form.waits)
    for x, nature in enumerate(net.natures):
        for j, bound in enumerate(form.bounds[nature.own]):
            if j != nature.own and is_below_zero(bound):
                put_lesser(bounds, nature.cause, j, bound + nature.lo)
        for k, row in enumerate(form.waits):
            if k != x and is_below_zero(row[nature.own]):
                put_lesser(waits, k, nature.cause, row[nature.own] + nature.lo)
    return Form(bounds, waits)


def is_below_zero(number):
    return number is not None and number < 0


def shield(net, form):
    """Part 3 of a round: a step that waits for a nature can't come before that nature may move."""
    bounds = copied(form.bounds)
    for k, nature in enumerate(net.natures):
        for i, wait in enumerate(form.waits[k]):
            if i != nature.own and i != nature.cause:
                put_lesser(bounds, i, nature.cause, greater(wait, -nature.lo))
    return Form(bounds, copied(form.waits))
