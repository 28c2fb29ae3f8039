"""A hand that sees what falls out and keeps a web whatever does (points 9, 12 and 13)."""

from momentties.closing import kept
from momentties.errors import BadFall, NoHand
from momentties.papers import falls_by_end


class Hand:
    def __init__(self, web):
        answer = kept(web)
        if answer[0] == "paper":
            raise NoHand(answer[1])
        self.rule_ties = answer[1]
        self.rule_waits = answer[2]
        self.by_end = falls_by_end(web)
        self.own_moments = web.own()
        self.came = [None] * web.many
        self.now = 0

    def times(self):
        return list(self.came)

    def is_over(self):
        return None not in self.came

    def is_in_fall(self, end):
        return self.came[end] is None and self.came[self.by_end[end][0]] is not None

    def look_over_end(self, end):
        now = self.now
        if end not in self.by_end:
            raise BadFall(f"{end} is not a moment that falls out")
        if not self.is_in_fall(end):
            raise BadFall(f"the fall of {end} is not under way at time {now}")
        fall = self.by_end[end]
        if not fall[1] <= now - self.came[fall[0]] <= fall[2]:
            raise BadFall(f"{end} cannot fall out at time {now}")

    def look_over(self, fallen):
        now = self.now
        for end in fallen:
            self.look_over_end(end)
            if fallen.count(end) > 1:
                raise BadFall(f"{end} is told twice")
        for end in self.by_end:
            fall = self.by_end[end]
            if self.is_in_fall(end) and now - self.came[fall[0]] >= fall[2] and end not in fallen:
                raise BadFall(f"{end} has to fall out by time {now}")

    def tie_lets(self, b, most, coming):
        if self.came[b] is not None:
            return self.came[b] <= self.now + most
        return most > 0 or (most == 0 and b in coming)

    def wait_lets(self, end, least):
        begun = self.came[self.by_end[end][0]]
        return self.came[end] is not None or (begun is not None and self.now - begun >= least)

    def lets(self, moment, coming):
        ties = [self.tie_lets(b, most, coming) for a, b, most in self.rule_ties if a == moment]
        waits = [self.wait_lets(end, least) for a, end, least in self.rule_waits if a == moment]
        return all(ties) and all(waits)

    # Moments may ask for one another at this very time: so all are taken, and struck as long as one isn't let.
    def all_let(self):
        coming = [moment for moment in self.own_moments if self.came[moment] is None]
        left = [moment for moment in coming if self.lets(moment, coming)]
        while left != coming:
            coming = left
            left = [moment for moment in coming if self.lets(moment, coming)]
        return left

    def goes(self, fallen):
        self.look_over(fallen)
        for end in fallen:
            self.came[end] = self.now
        coming = self.all_let()
        for moment in coming:
            self.came[moment] = self.now
        self.now += 1
        return coming
