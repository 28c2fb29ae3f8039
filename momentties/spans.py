"""The tightest spans, times, and ties that can go, falls kept like ties (points 6 and 7)."""

from momentties.bounds import bounds_with, earliest_times, told_bounds


# The bounds are to have times: with a ring that leaves no room the table would mean nothing.
def tight_table(web, bounds):
    moments = list(range(web.many))
    # Times lie from 0 to the last one, so no moment is further behind another one than that.
    table = [[web.last] * web.many for moment in moments]
    for moment in moments:
        table[moment][moment] = 0
    for a, b, most in bounds:
        table[a][b] = min(table[a][b], most)
    for via in moments:
        for a in moments:
            for b in moments:
                table[a][b] = min(table[a][b], table[a][via] + table[via][b])
    return table


def tight(web):
    bounds = told_bounds(web)
    earliest_times(web.many, bounds)
    return tight_table(web, bounds)


def earliest(web):
    return earliest_times(web.many, told_bounds(web))


def latest(web):
    return tight(web)[0]


def keeps(web, times):
    return times[0] == 0 and all([times[b] - times[a] <= most for a, b, most in told_bounds(web)])


def holds_already(table, tie):
    return table[tie[0]][tie[1]] <= tie[3] and table[tie[1]][tie[0]] <= -tie[2]


def spare(web):
    earliest_times(web.many, told_bounds(web))
    left = web.ties()
    gone = []
    # Going down, what has gone lies behind, so each tie still stands in `left` at its own number.
    for at in range(len(left) - 1, -1, -1):
        rest = left[:at] + left[at + 1:]
        if holds_already(tight_table(web, bounds_with(web, rest)), left[at]):
            left = rest
            gone.append(at)
    return sorted(gone)
