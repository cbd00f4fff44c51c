"""Bounds between steps: a list of rows, in row i at place j the bound from i to j; None is none."""


def lesser(one, other):
    if one is None:
        return other
    if other is None:
        return one
    return min(one, other)


def greater(one, other):
    if one is None or other is None:
        return None
    return max(one, other)


def added(one, other):
    if one is None or other is None:
        return None
    return one + other


def negated(number):
    return None if number is None else -number


def copied(rows):
    return [list(row) for row in rows]


def put_lesser(rows, i, j, bound):
    """Put the bound at row i, place j, if it's less than what stands there."""
    rows[i][j] = lesser(rows[i][j], bound)


def bare_row(i, size):
    """The bounds from i where nothing is told but that no step comes before start."""
    return [0 if j in (0, i) else None for j in range(size)]


def limit_bounds(net):
    """The bounds that are told but for the natures."""
    size = len(net.names)
    bounds = [bare_row(i, size) for i in range(size)]
    for limit in net.limits:
        put_lesser(bounds, limit.first, limit.second, limit.most)
        put_lesser(bounds, limit.second, limit.first, negated(limit.least))
    return bounds


def told_bounds(net):
    bounds = limit_bounds(net)
    for nature in net.natures:
        put_lesser(bounds, nature.cause, nature.own, nature.hi)
        put_lesser(bounds, nature.own, nature.cause, -nature.lo)
    return bounds


def closed(bounds):
    result = bounds
    for m in range(len(bounds)):
        result = closed_by(result, m)
    return result


def closed_by(bounds, m):
    # New rows, for all bounds are lowered at once: none is drawn from one that is lowered already.
    return [lowered_row(row, row[m], bounds[m]) for row in bounds]


def lowered_row(row, ahead, behind):
    """The row where each bound is the lesser of itself and (ahead, and that at its place in behind, added)."""
    if ahead is None:
        return list(row)
    result = []
    for bound, rest in zip(row, behind):
        if rest is not None and (bound is None or ahead + rest < bound):
            result.append(ahead + rest)
        else:
            result.append(bound)
    return result


def has_ring(bounds):
    """If closing the bounds brings one from a step to itself below 0."""
    return goes_below(closed(bounds))


def goes_below(closed_bounds):
    return any([row[step] < 0 for step, row in enumerate(closed_bounds)])


def weak_bounds(net):
    """The closed told bounds, or None if there's a ring in them."""
    bounds = closed(told_bounds(net))
    return None if goes_below(bounds) else bounds
