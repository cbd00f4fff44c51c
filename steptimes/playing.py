"""A play that is on: what nature may and must do, and what the desk does by the reduced form."""


class Play:
    """The tick, and at which tick each step was done (None: it isn't)."""

    def __init__(self, net, form):
        self.net = net
        self.form = form
        self.tick = 0
        self.times = net.first_times()

    def is_nature_allowed(self, steps):
        """If nature may do just these steps at the coming tick."""
        coming = self.tick + 1
        may = [nature.own for nature in self.net.natures if nature.may_move(self.times, coming)]
        must = [nature.own for nature in self.net.natures if nature.must_move(self.times, coming)]
        return all([step in may for step in steps]) and all([step in steps for step in must])

    def pass_tick(self, steps):
        """One tick more: nature does the steps, then the desk moves; gives what the desk did."""
        self.tick += 1
        for step in steps:
            self.times[step] = self.tick
        return self.move_desk()

    def pass_idly(self, most_ticks):
        """Ticks at which nature does nothing, till the desk does something or nature must; gives what the desk did."""
        done = []
        passed = 0
        while passed < most_ticks and len(done) == 0 and self.is_nature_allowed([]):
            done = self.pass_tick([])
            passed += 1
        return done

    def move_desk(self):
        """The desk does all steps that it can at this tick; gives them, rising."""
        done = self.doable_steps()
        for step in done:
            self.times[step] = self.tick
        return done

    def doable_steps(self):
        left = [step for step in self.net.our_steps() if self.times[step] is None]
        stay = [step for step in left if self.can_be_done(step, left)]
        # A step that is taken away may be one that another needs to be done with.
        while len(stay) < len(left):
            left = stay
            stay = [step for step in left if self.can_be_done(step, left)]
        return stay

    def can_be_done(self, step, left):
        for other, bound in enumerate(self.form.bounds[step]):
            if other != step and bound is not None and bound <= 0 and not self.allows_bound(other, bound, left):
                return False
        for k, nature in enumerate(self.net.natures):
            wait = self.form.waits[k][step]
            if wait is not None and wait < 0 and not self.is_wait_over(nature, wait):
                return False
        return True

    def allows_bound(self, other, bound, left):
        """If a step that has this bound to the other one can be done now."""
        if self.times[other] is None:
            return bound == 0 and other in left
        return self.tick >= self.times[other] - bound

    def is_wait_over(self, nature, wait):
        if self.times[nature.own] is not None:
            return True
        return self.times[nature.cause] is not None and self.tick >= self.times[nature.cause] - wait

    def told_times(self):
        """The times as they stand in an answer."""
        return [-1 if time is None else time for time in self.times]

    def is_ended(self):
        return None not in self.times

    def is_kept_so_far(self):
        return self.net.are_limits_kept(self.times)
