"""Plain reckonings that the tests hold the program against.

A web is here a tuple (many, last, ties, falls). Nothing in this file draws on the program.
"""

from itertools import combinations, product


def bounds(web):
    """The bounds of point 5."""
    many, last, ties, falls = web
    found = []
    for i in range(1, many):
        found += [(0, i, last), (i, 0, 0)]
    for one, other, least, most in ties + falls:
        found += [(one, other, most), (other, one, -least)]
    return found


def in_room(web, times):
    return times[0] == 0 and all(0 <= time <= web[1] for time in times)


def spans_kept(spans, times):
    return all(least <= times[other] - times[one] <= most for one, other, least, most in spans)


def is_kept(web, times):
    """Points 2 and 3 by their words, falls kept like ties."""
    return in_room(web, times) and spans_kept(web[2] + web[3], times)


def kept_times(web):
    """Every choice of times that keeps the web."""
    many, last = web[:2]
    choices = ((0,) + rest for rest in product(range(last + 1), repeat=many - 1))
    return [times for times in choices if is_kept(web, times)]


def tight_by_choices(many, choices):
    return [[max(times[b] - times[a] for times in choices) for b in range(many)] for a in range(many)]


def narrowed(web, moment, time):
    """The lowest and highest times left when one moment is put at a time; None where nothing is left.

    Times that no partner allows are struck until all that are left have partners.
    """
    many, last = web[:2]
    low, high = [0] * many, [0] + [last] * (many - 1)
    low[moment], high[moment] = max(low[moment], time), min(high[moment], time)
    changed = True
    while changed:
        changed = False
        for a, b, most in bounds(web):
            if high[b] > high[a] + most:
                high[b], changed = high[a] + most, True
            if low[a] < low[b] - most:
                low[a], changed = low[b] - most, True
        if any(one > other for one, other in zip(low, high)):
            return None
    return low, high


def tight_by_narrowing(web):
    """The table of point 6, or None where there are no times."""
    many, last = web[:2]
    table = []
    for a in range(many):
        left = [(time, narrowed(web, a, time)) for time in range(last + 1)]
        left = [(time, found[1]) for time, found in left if found is not None]
        if not left:
            return None
        table.append([max(high[b] - time for time, high in left) for b in range(many)])
    return table


def spare_by_table(web, table_of):
    """Point 7 by its words; the web has times."""
    many, last, ties, falls = web
    gone = []
    for number in reversed(range(len(ties))):
        others = [tie for k, tie in enumerate(ties) if k != number and k not in gone]
        table = table_of((many, last, others, falls))
        one, other, least, most = ties[number]
        if table[one][other] <= most and table[other][one] <= -least:
            gone.append(number)
    return sorted(gone)


def own_moments(web):
    return [moment for moment in range(web[0]) if all(fall[1] != moment for fall in web[3])]


def outcomes(falls):
    """Every way in which the falls can fall out: the lengths, one for each fall."""
    return list(product(*[range(least, most + 1) for one, other, least, most in falls]))


def with_ends(web, own_times, lengths):
    times = list(own_times)
    for (one, other, least, most), length in zip(web[3], lengths):
        times[other] = times[one] + length
    return times


def fixed_choices(web):
    """Every choice of times of the own moments that keeps all, however the falls fall out."""
    many, last, ties, falls = web
    own, ways, found = own_moments(web), outcomes(falls), []
    for rest in product(range(last + 1), repeat=len(own) - 1):
        times = [None] * many
        for moment, time in zip(own, (0,) + rest):
            times[moment] = time
        whole = [with_ends(web, times, lengths) for lengths in ways]
        if all(in_room(web, each) and spans_kept(ties, each) for each in whole):
            found.append(times)
    return found


def earliest_choice(choices):
    """Each moment as early as it is in any of the choices; None stays None."""
    return [None if column[0] is None else min(column) for column in zip(*choices)]


def worst_bounds(web):
    """What the bounds of point 5 but the falls' own ask of own moments, by each length that can fall out."""
    many, last, ties, falls = web
    fall_of = {fall[1]: fall for fall in falls}
    found = []
    for a, b, most in bounds((many, last, ties, [])):
        begin_a, a, low_a, high_a = fall_of.get(a, (a, a, 0, 0))
        begin_b, b, low_b, high_b = fall_of.get(b, (b, b, 0, 0))
        lengths = product(range(low_a, high_a + 1), range(low_b, high_b + 1))
        found.append((begin_a, begin_b, min(most + after_a - after_b for after_a, after_b in lengths)))
    return found


def ring_total(ring, found):
    """What a ring comes to by its narrowest bounds; None where two moments in it are not bounded."""
    total = 0
    for a, b in zip(ring, ring[1:] + ring[:1]):
        between = [most for one, other, most in found if (one, other) == (a, b)]
        if not between:
            return None
        total += min(between)
    return total


def is_ring(ring, found, fewest):
    """Whether it lists moments, none twice, that leave no room by the bounds found."""
    if type(ring) is not list or len(ring) < fewest or len(ring) != len(set(ring)):
        return False
    total = ring_total(ring, found)
    return total is not None and total < 0


def some_spans(chance, times, count, slack, wild):
    """Ties round the given times, `slack` wide at most; every `wild`th or so has any numbers instead."""
    ties = []
    for number in range(count):
        one, other = chance.sample(range(len(times)), 2)
        if wild and chance.randrange(wild) == 0:
            least, most = sorted([chance.randint(-60, 60), chance.randint(-60, 60)])
        else:
            behind = times[other] - times[one]
            least = max(-60, behind - chance.randint(0, slack))
            most = min(60, behind + chance.randint(0, slack))
        ties.append((one, other, least, most))
    return ties


def some_web(chance, many, last, fall_count, tie_count, slack, wild=0, longest=60):
    """A web by chance; its ends have any numbers but 0, and more often than not it has times."""
    ends = chance.sample(range(1, many), fall_count)
    times = [0] + [chance.randint(0, last) for moment in range(1, many)]
    begins = [moment for moment in range(many) if moment not in ends]
    falls = []
    for end in ends:
        one = chance.choice(begins)
        least = chance.randint(1, max(1, min(longest, last // 3)))
        most = min(60, least + chance.randint(0, max(0, min(longest, last // 3) - 1)))
        times[one] = 0 if one == 0 else min(times[one], max(0, last - most))
        falls.append((one, end, least, most))
    for one, end, least, most in falls:
        times[end] = times[one] + chance.randint(least, most)
    ties = some_spans(chance, times, tie_count, slack, wild) if many > 1 else []
    return many, last, ties, falls


def following_web(chance, many, last, fall_count, tie_count, longest):
    """A web by chance in which moments follow one another, ends and own ones, with some more ties between any two."""
    ends = chance.sample(range(1, many), fall_count)
    order = [0] + chance.sample(range(1, many), many - 1)
    ties, falls = [], []
    for place, moment in enumerate(order):
        if moment in ends:
            least, most = sorted([chance.randint(1, longest), chance.randint(1, longest)])
            falls.append((chance.choice([each for each in order[:place] if each not in ends]), moment, least, most))
        elif moment != 0 and chance.randrange(4):
            least = chance.randint(chance.choice((-longest // 2, 0)), longest // 4)
            most = min(60, least + chance.randint(0, chance.choice((longest // 4, longest))))
            ties.append((chance.choice(order[:place]), moment, least, most))
    for number in range(tie_count if many > 1 else 0):
        one, other = chance.sample(range(many), 2)
        middle, reach = chance.randint(-longest, longest), chance.randint(0, longest)
        ties.append((one, other, max(-60, middle - reach), min(60, middle + reach)))
    return many, last, ties, falls


def one_sided_web(chance, many, last, fall_count, tie_count, longest):
    """A web by chance with ties that bound on one side alone, every second or so between two ends."""
    ends = chance.sample(range(1, many), fall_count)
    own = [moment for moment in range(many) if moment not in ends]
    ties, falls = [], []
    for end in ends:
        least, most = sorted([chance.randint(1, longest), chance.randint(1, longest)])
        falls.append((chance.choice(own), end, least, most))
    for number in range(tie_count):
        between_ends = fall_count > 1 and chance.randrange(2)
        one, other = chance.sample(ends if between_ends else range(many), 2)
        number = chance.randint(-longest // 2, longest // 2)
        ties.append((one, other, number, 60) if chance.randrange(2) else (one, other, -60, number))
    return many, last, ties, falls


def looser_webs(chance, web):
    """Webs that ask for less than this one: pairs of what was loosened and the web."""
    many, last, ties, falls = web
    yield "last", (many, chance.randint(last, 60), ties, falls)
    for number, (one, other, least, most) in enumerate(ties):
        yield "tie", (many, last, ties[:number] + ties[number + 1:], falls)
        wider = (one, other, chance.randint(-60, least), chance.randint(most, 60))
        yield "tie", (many, last, ties[:number] + [wider] + ties[number + 1:], falls)
    for number, (one, other, least, most) in enumerate(falls):
        narrower = (one, other) + tuple(sorted([chance.randint(least, most), chance.randint(least, most)]))
        yield "fall", (many, last, ties, falls[:number] + [narrower] + falls[number + 1:])


def as_fallen_out(web, lengths):
    """The web in which each fall is just as long as it falls out."""
    return web[:3] + ([(one, end, length, length) for (one, end, least, most), length in zip(web[3], lengths)],)


def drawn_lengths(chance, falls, count):
    """Ways in which the falls can fall out: all soon, all late, and some by chance."""
    ways = [tuple(fall[2] for fall in falls), tuple(fall[3] for fall in falls)]
    for turn in range(count):
        edges = chance.randrange(2)
        ways.append(tuple(chance.choice(fall[2:]) if edges else chance.randint(*fall[2:]) for fall in falls))
    return ways


def subsets(some):
    """All of them, the largest ahead."""
    return [chosen for size in range(len(some), -1, -1) for chosen in combinations(some, size)]


def may_fall(web, times, now):
    """The ends that can fall out now, and those of them that have to."""
    may, has_to = [], []
    for one, end, least, most in web[3]:
        if times[end] is None and times[one] is not None and least <= now - times[one] <= most:
            may.append(end)
            if now - times[one] == most:
                has_to.append(end)
    return may, has_to


def came_at(times, moments, now):
    return tuple(now if moment in moments else time for moment, time in enumerate(times))


def some_hand_keeps(web):
    """Point 9 by its words: each deed of a hand against each way of falling out, time by time."""
    many, last, ties, falls = web
    own, known = own_moments(web), {}

    def is_broken(times):
        come = [tie for tie in ties if times[tie[0]] is not None and times[tie[1]] is not None]
        return not spans_kept(come, times)

    def is_won(times, now):
        if is_broken(times) or now > 0 and times[0] != 0:
            return False
        if None not in times:
            return True
        if now > last:
            return False
        if (times, now) not in known:
            may, has_to = may_fall(web, times, now)
            fallen = [some for some in subsets(may) if set(has_to) <= set(some)]
            known[times, now] = all(has_answer(came_at(times, some, now), now) for some in fallen)
        return known[times, now]

    def has_answer(times, now):
        left = [moment for moment in own if times[moment] is None]
        return any(is_won(came_at(times, deeds, now), now + 1) for deeds in subsets(left))

    return is_won((None,) * many, 0)


def concluded(web, word, used):
    """All that follows by one word of point 10 from what is used, in the order told."""
    fall_of = {fall[1]: fall for fall in web[3]}
    match word, list(used):
        case "told", []:
            return [("tie",) + bound for bound in bounds(web)]
        case "sum", [("tie", a, b, v), ("tie", from_b, c, w)] if b == from_b:
            return [("tie", a, c, v + w)]
        case "late", [("tie", a, e, v)] if e in fall_of and a != e:
            s, e, x, y = fall_of[e]
            return [("wait", a, e, y - v)]
        case "soon", [("tie", e, b, v)] if e in fall_of and b != e and v < 0:
            s, e, x, y = fall_of[e]
            return [("tie", s, b, x + v)]
        case "sure", [("wait", a, e, v)] if e in fall_of:
            s, e, x, y = fall_of[e]
            return [("tie", a, s, -min(v, x))]
        case "back", [("wait", a, e, v), ("tie", b, to_a, w)] if e in fall_of and a == to_a and b != e:
            s, e, x, y = fall_of[e]
            return [("wait", b, e, min(v, y) - w)]
        case "cross", [("wait", f, e, v)] if e in fall_of and f in fall_of and f != e and v > 0:
            s, e, x, y = fall_of[e]
            r, f, z, longest = fall_of[f]
            return [("wait", r, e, min(v, y) - z)]
    return []


def row_stands(web, rows, number):
    what, word, used = rows[number]
    if any(each not in range(number) for each in used):
        return False
    return what in concluded(web, word, [rows[each][0] for each in used])


def shows_no_hand(what):
    kind, a, b, v = what
    return kind == "tie" and a == b and v < 0


def is_paper_by_rows(web, rows):
    """Point 11 by its words."""
    stands = [row_stands(web, rows, number) for number in range(len(rows))]
    return bool(rows) and all(stands) and shows_no_hand(rows[-1][0])


def all_that_holds(web):
    """The narrowest ties and longest waits by point 10, as {(kind, a, b): v}; None where no hand keeps the web."""
    held = {}
    changed = True

    def note(word, *used):
        nonlocal changed
        for kind, a, b, v in concluded(web, word, used):
            known = held.get((kind, a, b))
            if known is None or (v < known if kind == "tie" else v > known):
                held[kind, a, b], changed = v, True

    while changed:
        changed = False
        if any(kind == "tie" and a == b and v < 0 for (kind, a, b), v in held.items()):
            return None
        note("told")
        facts = [key + (v,) for key, v in held.items()]
        for what in facts:
            for word in ("late", "soon", "sure", "cross"):
                note(word, what)
            for other in facts:
                if what[0] == other[0] == "tie":
                    note("sum", what, other)
                elif what[0] == "wait" and other[0] == "tie":
                    note("back", what, other)
    return held


def lets_alone(web, waits, times, now, moment):
    """Point 12, of waits."""
    for a, e, v in waits:
        s = [fall[0] for fall in web[3] if fall[1] == e][0]
        if a == moment and times[e] is None and (times[s] is None or now - times[s] < v):
            return False
    return True


def lets_with(own, ties, times, now, moment, coming):
    """Point 12, of ties: whether they let a moment be now, where `coming` come now, too."""
    for a, b, v in ties:
        was = times[b] is not None and times[b] <= now + v
        later = times[b] is None and v > 0
        along = v == 0 and b in own and b in coming
        if a == moment and not (was or later or along):
            return False
    return True


def deeds_by_rule(web, ties, waits, times, now):
    """The most own moments that a rule lets be now, by trying the largest choices first; the ends are seen already."""
    own = own_moments(web)
    left = [moment for moment in own if times[moment] is None and lets_alone(web, waits, times, now, moment)]
    # What isn't let even where all others come along never is.
    left = [moment for moment in left if lets_with(own, ties, times, now, moment, own)]
    for coming in subsets(left):
        if all(lets_with(own, ties, times, now, moment, coming) for moment in coming):
            return list(coming)


def ends_due(web, times, lengths, now):
    return [end for (one, end, least, most), length in zip(web[3], lengths)
            if times[one] is not None and times[one] + length == now]


def rule_followed(web, ties, waits, lengths):
    """The times that come of a rule where the falls are so long, None for what has not come by the last time."""
    times = (None,) * web[0]
    for now in range(web[1] + 1):
        times = came_at(times, ends_due(web, times, lengths, now), now)
        times = came_at(times, deeds_by_rule(web, ties, waits, times, now), now)
    return list(times)


def rule_holds(web, ties, waits, times):
    """Whether all ties and waits hold in what came of it."""
    fall_of = {fall[1]: fall for fall in web[3]}
    return (all(times[b] - times[a] <= v for a, b, v in ties)
            and all(times[e] <= times[a] or times[a] >= times[fall_of[e][0]] + v for a, e, v in waits))
