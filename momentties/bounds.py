"""Bounds (a, b, most), b is at most `most` behind a (point 5), and the earliest times that keep them."""

from momentties.errors import NoTimes


def room_bounds(web):
    bounds = []
    for moment in range(1, web.many):
        bounds.append((0, moment, web.last))
        bounds.append((moment, 0, 0))
    return bounds


def span_bounds(spans):
    bounds = []
    for one, other, least, most in spans:
        bounds.append((one, other, most))
        bounds.append((other, one, -least))
    return bounds


def bounds_with(web, ties):
    return room_bounds(web) + span_bounds(ties) + span_bounds(web.falls())


def told_bounds(web):
    return bounds_with(web, web.ties())


def ring_behind(pushers, moment):
    # The first steps may lead up to the ring; after as many steps as there are moments one stands on it.
    start = moment
    for step in range(len(pushers)):
        start = pushers[start]
    ring = [start]
    while pushers[ring[-1]] != start:
        ring.append(pushers[ring[-1]])
    return ring


# Every moment starts at 0 and is pushed later only where a bound asks for it, so what comes to rest is earliest.
# Without a ring a push is handed on through fewer moments than there are, so the last round pushes nothing.
def earliest_times(many, bounds):
    times = [0] * many
    pushers = [0] * many
    for turn in range(many):
        pushed = None
        for a, b, most in bounds:
            if times[a] < times[b] - most:
                times[a] = times[b] - most
                pushers[a] = b
                pushed = a
        if pushed is None:
            return times
    raise NoTimes(ring_behind(pushers, pushed))
