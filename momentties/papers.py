"""The words by which something holds for every hand (point 10), and papers that show that none keeps a web."""

from momentties.bounds import told_bounds

# What each word uses, in the order told. A bound told uses nothing, so "told" is not among them.
USED_KINDS = {
    "sum": ("tie", "tie"),
    "late": ("tie",),
    "soon": ("tie",),
    "sure": ("wait",),
    "back": ("wait", "tie"),
    "cross": ("wait",),
}


def falls_by_end(web):
    found = {}
    for one, other, least, most in web.falls():
        found[other] = (one, least, most)
    return found


def by_sum(first, second):
    if first[2] != second[1]:
        return None
    return ("tie", first[1], second[2], first[3] + second[3])


def by_late(falls, tie):
    end = tie[2]
    if end not in falls or tie[1] == end:
        return None
    return ("wait", tie[1], end, falls[end][2] - tie[3])


def by_soon(falls, tie):
    end = tie[1]
    if end not in falls or tie[2] == end or tie[3] >= 0:
        return None
    return ("tie", falls[end][0], tie[2], falls[end][1] + tie[3])


def by_sure(falls, wait):
    fall = falls[wait[2]]
    return ("tie", wait[1], fall[0], -min(wait[3], fall[1]))


def by_back(falls, wait, tie):
    end = wait[2]
    if tie[2] != wait[1] or tie[1] == end:
        return None
    return ("wait", tie[1], end, min(wait[3], falls[end][2]) - tie[3])


def by_cross(falls, wait):
    end = wait[2]
    if wait[1] not in falls or wait[1] == end or wait[3] <= 0:
        return None
    other = falls[wait[1]]
    return ("wait", other[0], end, min(wait[3], falls[end][2]) - other[1])


# What is used is to hold by these words itself: so every wait in it is of an end.
def what_follows(falls, word, used):
    if tuple([what[0] for what in used]) != USED_KINDS.get(word):
        return None
    if word == "sum":
        return by_sum(used[0], used[1])
    if word == "late":
        return by_late(falls, used[0])
    if word == "soon":
        return by_soon(falls, used[0])
    if word == "sure":
        return by_sure(falls, used[0])
    if word == "back":
        return by_back(falls, used[0], used[1])
    return by_cross(falls, used[0])


def bars_every_hand(what):
    return what[0] == "tie" and what[1] == what[2] and what[3] < 0


def row_follows(told, falls, rows, at):
    row = rows[at]
    if not all([0 <= number < at for number in row[2]]):
        return False
    if row[1] == "told":
        return len(row[2]) == 0 and row[0][0] == "tie" and row[0][1:] in told
    return what_follows(falls, row[1], [rows[number][0] for number in row[2]]) == row[0]


def is_paper(web, rows):
    told = told_bounds(web)
    falls = falls_by_end(web)
    for at in range(len(rows)):
        if not row_follows(told, falls, rows, at):
            return False
    return len(rows) > 0 and bars_every_hand(rows[-1][0])
