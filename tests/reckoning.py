"""Plain reckonings that the tests hold the program against.

A web is here a tuple (many, last, ties, falls). Nothing in this file draws on the program.
"""

from itertools import product


def bounds(web):
    """The bounds of point 5."""
    many, last, ties, falls = web
    found = []
    for i in range(1, many):
        found += [(0, i, last), (i, 0, 0)]
    for one, other, least, most in ties + falls:
        found += [(one, other, most), (other, one, -least)]
    return found


def in_room(web, times):
    return times[0] == 0 and all(0 <= time <= web[1] for time in times)


def spans_kept(spans, times):
    return all(least <= times[other] - times[one] <= most for one, other, least, most in spans)


def is_kept(web, times):
    """Points 2 and 3 by their words, falls kept like ties."""
    return in_room(web, times) and spans_kept(web[2] + web[3], times)


def kept_times(web):
    """Every choice of times that keeps the web."""
    many, last = web[:2]
    choices = ((0,) + rest for rest in product(range(last + 1), repeat=many - 1))
    return [times for times in choices if is_kept(web, times)]


def tight_by_choices(many, choices):
    return [[max(times[b] - times[a] for times in choices) for b in range(many)] for a in range(many)]


def narrowed(web, moment, time):
    """The lowest and highest times left when one moment is put at a time; None where nothing is left.

    Times that no partner allows are struck until all that are left have partners.
    """
    many, last = web[:2]
    low, high = [0] * many, [0] + [last] * (many - 1)
    low[moment], high[moment] = max(low[moment], time), min(high[moment], time)
    changed = True
    while changed:
        changed = False
        for a, b, most in bounds(web):
            if high[b] > high[a] + most:
                high[b], changed = high[a] + most, True
            if low[a] < low[b] - most:
                low[a], changed = low[b] - most, True
        if any(one > other for one, other in zip(low, high)):
            return None
    return low, high


def tight_by_narrowing(web):
    """The table of point 6, or None where there are no times."""
    many, last = web[:2]
    table = []
    for a in range(many):
        left = [(time, narrowed(web, a, time)) for time in range(last + 1)]
        left = [(time, found[1]) for time, found in left if found is not None]
        if not left:
            return None
        table.append([max(high[b] - time for time, high in left) for b in range(many)])
    return table


def spare_by_table(web, table_of):
    """Point 7 by its words; the web has times."""
    many, last, ties, falls = web
    gone = []
    for number in reversed(range(len(ties))):
        others = [tie for k, tie in enumerate(ties) if k != number and k not in gone]
        table = table_of((many, last, others, falls))
        one, other, least, most = ties[number]
        if table[one][other] <= most and table[other][one] <= -least:
            gone.append(number)
    return sorted(gone)


def own_moments(web):
    return [moment for moment in range(web[0]) if all(fall[1] != moment for fall in web[3])]


def outcomes(falls):
    """Every way in which the falls can fall out: the lengths, one for each fall."""
    return list(product(*[range(least, most + 1) for one, other, least, most in falls]))


def with_ends(web, own_times, lengths):
    times = list(own_times)
    for (one, other, least, most), length in zip(web[3], lengths):
        times[other] = times[one] + length
    return times


def fixed_choices(web):
    """Every choice of times of the own moments that keeps all, however the falls fall out."""
    many, last, ties, falls = web
    own, ways, found = own_moments(web), outcomes(falls), []
    for rest in product(range(last + 1), repeat=len(own) - 1):
        times = [None] * many
        for moment, time in zip(own, (0,) + rest):
            times[moment] = time
        whole = [with_ends(web, times, lengths) for lengths in ways]
        if all(in_room(web, each) and spans_kept(ties, each) for each in whole):
            found.append(times)
    return found


def earliest_choice(choices):
    """Each moment as early as it is in any of the choices; None stays None."""
    return [None if column[0] is None else min(column) for column in zip(*choices)]


def worst_bounds(web):
    """What the bounds of point 5 but the falls' own ask of own moments, by each length that can fall out."""
    many, last, ties, falls = web
    fall_of = {fall[1]: fall for fall in falls}
    found = []
    for a, b, most in bounds((many, last, ties, [])):
        begin_a, a, low_a, high_a = fall_of.get(a, (a, a, 0, 0))
        begin_b, b, low_b, high_b = fall_of.get(b, (b, b, 0, 0))
        lengths = product(range(low_a, high_a + 1), range(low_b, high_b + 1))
        found.append((begin_a, begin_b, min(most + after_a - after_b for after_a, after_b in lengths)))
    return found


def ring_total(ring, found):
    """What a ring comes to by its narrowest bounds; None where two moments in it are not bounded."""
    total = 0
    for a, b in zip(ring, ring[1:] + ring[:1]):
        between = [most for one, other, most in found if (one, other) == (a, b)]
        if not between:
            return None
        total += min(between)
    return total


def is_ring(ring, found, fewest):
    """Whether it lists moments, none twice, that leave no room by the bounds found."""
    if type(ring) is not list or len(ring) < fewest or len(ring) != len(set(ring)):
        return False
    total = ring_total(ring, found)
    return total is not None and total < 0


def some_spans(chance, times, count, slack, wild):
    """Ties round the given times, `slack` wide at most; every `wild`th or so has any numbers instead."""
    ties = []
    for number in range(count):
        one, other = chance.sample(range(len(times)), 2)
        if wild and chance.randrange(wild) == 0:
            least, most = sorted([chance.randint(-60, 60), chance.randint(-60, 60)])
        else:
            behind = times[other] - times[one]
            least = max(-60, behind - chance.randint(0, slack))
            most = min(60, behind + chance.randint(0, slack))
        ties.append((one, other, least, most))
    return ties


def some_web(chance, many, last, fall_count, tie_count, slack, wild=0, longest=60):
    """A web by chance; its ends have any numbers but 0, and more often than not it has times."""
    ends = chance.sample(range(1, many), fall_count)
    times = [0] + [chance.randint(0, last) for moment in range(1, many)]
    begins = [moment for moment in range(many) if moment not in ends]
    falls = []
    for end in ends:
        one = chance.choice(begins)
        least = chance.randint(1, max(1, min(longest, last // 3)))
        most = min(60, least + chance.randint(0, max(0, min(longest, last // 3) - 1)))
        times[one] = 0 if one == 0 else min(times[one], max(0, last - most))
        falls.append((one, end, least, most))
    for one, end, least, most in falls:
        times[end] = times[one] + chance.randint(least, most)
    ties = some_spans(chance, times, tie_count, slack, wild) if many > 1 else []
    return many, last, ties, falls
