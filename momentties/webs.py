"""Webs of moments, and what bars a web from being (points 2 to 4)."""

from momentties.errors import BadWeb

MOST_MOMENTS = 8
LATEST_LAST = 60
WIDEST_SPAN = 60
LONGEST_FALL = 60


def are_two_moments(many, one, other):
    return 0 <= one < many and 0 <= other < many and one != other


def look_over_size(many, last):
    if not 1 <= many <= MOST_MOMENTS:
        raise BadWeb(0, "many")
    if not 1 <= last <= LATEST_LAST:
        raise BadWeb(0, "last")


def look_over_ties(many, ties):
    at = 0
    for one, other, least, most in ties:
        if not are_two_moments(many, one, other):
            raise BadWeb(at, "moment")
        if not -WIDEST_SPAN <= least <= most <= WIDEST_SPAN:
            raise BadWeb(at, "span")
        at += 1


def look_over_falls(many, falls):
    # A beginning is held against the ends of later falls too, whatever else is wrong with those.
    ends = [fall[1] for fall in falls]
    at = 0
    for one, other, least, most in falls:
        if not are_two_moments(many, one, other) or one in ends:
            raise BadWeb(at, "fall")
        if other == 0 or other in ends[:at]:
            raise BadWeb(at, "fall")
        if not 1 <= least <= most <= LONGEST_FALL:
            raise BadWeb(at, "length")
        at += 1


class Web:
    def __init__(self, many, last, ties, falls):
        look_over_size(many, last)
        look_over_ties(many, ties)
        look_over_falls(many, falls)
        self.many = many
        self.last = last
        self.told_ties = list(ties)
        self.told_falls = list(falls)

    def ties(self):
        return list(self.told_ties)

    def falls(self):
        return list(self.told_falls)

    def own(self):
        ends = [fall[1] for fall in self.told_falls]
        return [moment for moment in range(self.many) if moment not in ends]
