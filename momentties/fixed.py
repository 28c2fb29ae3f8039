"""Times of the own moments, fixed ahead, that keep all ties whatever falls out (point 8)."""

from momentties.bounds import earliest_times, told_bounds


# An end stands for its beginning: as the later moment of a bound it is worst late, as the earlier one soon.
# A fall's own two bounds come out as (one, one, 0), which bars nothing.
def worst_bounds(web):
    begin = list(range(web.many))
    soon = [0] * web.many
    late = [0] * web.many
    for one, other, least, most in web.falls():
        begin[other] = one
        soon[other] = least
        late[other] = most
    return [(begin[a], begin[b], most + soon[a] - late[b]) for a, b, most in told_bounds(web)]


def fixed(web):
    times = earliest_times(web.many, worst_bounds(web))
    own = web.own()
    return [times[moment] if moment in own else None for moment in range(web.many)]
