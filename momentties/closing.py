"""A rule by which a hand keeps a web, or a paper that shows that no hand does (points 10 to 12)."""

from momentties.bounds import told_bounds
from momentties.papers import bars_every_hand, falls_by_end, what_follows


# All rows drawn so far, and of each two moments the number of the row that holds the narrowest tie, or longest wait:
# whatever follows from a wider tie or a shorter wait follows from these, or something narrower does.
class Closing:
    def __init__(self, web):
        self.many = web.many
        self.by_end = falls_by_end(web)
        self.rows = []
        self.best = {}
        self.bar = None
        for a, b, most in told_bounds(web):
            self.take(("tie", a, b, most), "told", ())

    def is_news(self, what):
        if what[0] == "tie" and what[1] == what[2]:
            return what[3] < 0
        key = what[:3]
        if key not in self.best:
            return True
        known = self.rows[self.best[key]][0]
        return what[3] < known[3] if what[0] == "tie" else what[3] > known[3]

    def take(self, what, word, used):
        if self.is_news(what):
            self.best[what[:3]] = len(self.rows)
            if self.bar is None and bars_every_hand(what):
                self.bar = len(self.rows)
            self.rows.append((what, word, used))

    def draw(self, word, used):
        what = what_follows(self.by_end, word, [self.rows[number][0] for number in used])
        if what is not None:
            self.take(what, word, used)

    def known_of(self, kind, a):
        return [self.best[(kind, a, b)] for b in range(self.many) if (kind, a, b) in self.best]

    def ties_to(self, b):
        return [self.best[("tie", a, b)] for a in range(self.many) if ("tie", a, b) in self.best]

    def draw_from_tie(self, at, a, b):
        self.draw("late", (at,))
        self.draw("soon", (at,))
        for number in self.known_of("tie", b):
            self.draw("sum", (at, number))
        for number in self.ties_to(a):
            self.draw("sum", (number, at))
        for number in self.known_of("wait", b):
            self.draw("back", (number, at))

    def draw_from_wait(self, at, a):
        self.draw("sure", (at,))
        self.draw("cross", (at,))
        for number in self.ties_to(a):
            self.draw("back", (at, number))

    def draw_all(self):
        at = 0
        while at < len(self.rows) and self.bar is None:
            what = self.rows[at][0]
            # What was outdone since it was drawn needs no look: its better stands further down.
            if self.best[what[:3]] == at:
                if what[0] == "tie":
                    self.draw_from_tie(at, what[1], what[2])
                else:
                    self.draw_from_wait(at, what[1])
            at += 1

    def best_drawn(self, kind):
        return sorted([self.rows[self.best[key]][0][1:] for key in self.best if key[0] == kind])


def numbers_needed(rows, last):
    needed = {last: True}
    for at in range(last, -1, -1):
        if at in needed:
            for number in rows[at][2]:
                needed[number] = True
    return sorted(needed)


def paper_up_to(rows, last):
    places = {}
    paper = []
    for number in numbers_needed(rows, last):
        row = rows[number]
        places[number] = len(paper)
        paper.append((row[0], row[1], tuple([places[used] for used in row[2]])))
    return paper


# A wait no longer than the fall's least stands among the ties, by "sure". One longer than its most bars nothing that
# the rest doesn't: it comes of a tie that puts the moment behind the end, or behind a moment that waits for the end.
def is_told(by_end, wait):
    fall = by_end[wait[1]]
    return fall[1] < wait[2] <= fall[2]


def kept(web):
    closing = Closing(web)
    closing.draw_all()
    if closing.bar is not None:
        return ("paper", paper_up_to(closing.rows, closing.bar))
    waits = [wait for wait in closing.best_drawn("wait") if is_told(closing.by_end, wait)]
    return ("rule", closing.best_drawn("tie"), waits)
