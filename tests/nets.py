"""Nets made by chance, for the tests that compare; a net is (steps, limits, natures) as in talk.text_of."""


def some_net(chance, most_steps, most_natures, most_limits, most_ticks):
    """Any net: mostly one whose limits can't be kept."""
    steps = chance.randint(2, most_steps)
    owns = chance.sample(range(1, steps), chance.randint(0, min(most_natures, steps - 1)))
    natures = []
    for own in owns:
        lo = chance.randint(1, most_ticks)
        natures.append((chance.choice([i for i in range(steps) if i != own]), own, lo, chance.randint(lo, most_ticks)))
    limits = []
    for _ in range(chance.randint(0, most_limits)):
        a, b = chance.sample(range(steps), 2)
        low, high = sorted([chance.randint(0, most_ticks), chance.randint(0, most_ticks)])
        limits.append((a, b, chance.choice([None, low]), chance.choice([None, high])))
    return steps, limits, natures


def likely_net(chance, steps, natures, most_limits, most_ticks):
    """A net with limits laid round one play, so that it's weakly kept and often surely too."""
    owns = chance.sample(range(1, steps), natures)
    times = [0] * steps
    rows = []
    for step in range(1, steps):
        if step in owns:
            a = chance.randrange(step)
            lo = chance.randint(1, most_ticks)
            hi = chance.randint(lo, most_ticks)
            times[step] = times[a] + chance.randint(lo, hi)
            rows.append((a, step, lo, hi))
        else:
            times[step] = chance.randint(0, most_ticks + 2)
    limits = []
    for _ in range(chance.randint(1, most_limits)):
        a, b = sorted(chance.sample(range(steps), 2), key=lambda step: times[step])
        gap = times[b] - times[a]
        least = chance.choice([None, max(0, gap - chance.randint(0, 2)), gap, 0])
        limits.append((a, b, least, chance.choice([None, gap + chance.randint(0, most_ticks)])))
    chance.shuffle(rows)
    return steps, limits, rows
