import random
import unittest

from momentties.closing import kept
from momentties.papers import is_paper
from momentties.webs import Web
from tests.reckoning import bounds, concluded, following_web, is_paper_by_rows, shows_no_hand, some_web

WORDS = ["told", "sum", "late", "soon", "sure", "back", "cross"]


def webs_without_hands(seed, count):
    """Webs with their papers."""
    chance, found = random.Random(seed), []
    while len(found) < count:
        many = chance.randint(2, 8)
        fall_count = chance.randint(0, many - 1)
        longest = chance.choice((3, 8, 20, 60))
        if chance.randrange(3):
            web = following_web(chance, many, chance.choice((5, 20, 60)), fall_count, chance.randint(0, 3), longest)
        else:
            web = some_web(chance, many, chance.choice((5, 20, 60)), fall_count, many, 9, 6)
        answer = kept(Web(*web))
        if answer[0] == "paper":
            found.append((web, answer[1]))
    return found


def changed_facts(many, what):
    """What holds with its kind, one moment or its number changed."""
    kind, a, b, v = what
    yield ("wait" if kind == "tie" else "tie", a, b, v)
    for moment in range(many):
        yield (kind, moment, b, v)
        yield (kind, a, moment, v)
    yield (kind, b, a, v)
    for number in (v - 1, v + 1, -v, 0):
        yield (kind, a, b, number)


def changed_uses(count, used):
    yield ()
    yield used + (0,)
    yield used[::-1]
    yield used[1:]
    for place in range(len(used)):
        for number in {0, used[place] - 1, used[place] + 1, -1, count - 1, count, -count, count + 5}:
            yield used[:place] + (number,) + used[place + 1:]


def exchanged(rows, one, other):
    rows = list(rows)
    rows[one], rows[other] = rows[other], rows[one]
    return rows


def renamed(rows, one, other):
    """The rows with each use of one row turned into one of the other, and the other way round."""
    names = {one: other, other: one}
    return [(what, word, tuple(names.get(number, number) for number in used)) for what, word, used in rows]


def changed_rows(many, rows):
    """The rows with one number, word or used row changed, a row left out, or two rows exchanged."""
    for at, (what, word, used) in enumerate(rows):
        others = [(other, word, used) for other in changed_facts(many, what)]
        others += [(what, other, used) for other in WORDS]
        others += [(what, word, other) for other in changed_uses(len(rows), used)]
        for other in others:
            yield rows[:at] + [other] + rows[at + 1:]
        yield rows[:at] + rows[at + 1:]
        for later in range(at + 1, len(rows)):
            yield exchanged(rows, at, later)
            yield renamed(exchanged(rows, at, later), at, later)
    for at in range(len(rows)):
        yield rows[:at]


def loosely_concluded(web, word, used):
    """What would follow by a word if one passed over which moments it asks for, and which are below nought."""
    fall_of, a, b, v = {fall[1]: fall for fall in web[3]}, *used[0][1:]
    # Where something is asked of a fall, any fall will do here.
    s, e, x, y = fall_of.get(b, web[3][0])
    if word == "sum":
        return ("tie", a, used[1][2], v + used[1][3])
    if word == "late":
        return ("wait", a, b, y - v)
    if word == "soon":
        s, e, x, y = fall_of.get(a, web[3][0])
        return ("tie", s, b, x + v)
    if word == "sure":
        return ("tie", a, s, -min(v, x))
    if word == "back":
        return ("wait", used[1][1], b, min(v, y) - used[1][3])
    r, f, z, longest = fall_of.get(a, web[3][0])
    return ("wait", r, b, min(v, y) - z)


def drawn_rows(chance, web, count):
    """Rows by chance that follow by the words from those ahead."""
    rows = [(("tie",) + bound, "told", ()) for bound in bounds(web)]
    while len(rows) < count:
        word = chance.choice(WORDS[1:])
        used = tuple(chance.randrange(len(rows)) for place in range(2 if word in ("sum", "back") else 1))
        for what in concluded(web, word, [rows[number][0] for number in used]):
            rows.append((what, word, used))
            if shows_no_hand(what):
                return rows
    return rows


class PapersOfWebsTest(unittest.TestCase):
    def test_papers_told_are_papers(self):
        words = set()
        for web, rows in webs_without_hands(31, 300):
            self.assertIs(is_paper(Web(*web), rows), True, web)
            words |= {row[1] for row in rows}
        self.assertEqual(words, set(WORDS))

    def test_one_change(self):
        met = {True: 0, False: 0}
        for web, rows in webs_without_hands(32, 150):
            made = Web(*web)
            for changed in changed_rows(web[0], rows):
                ahead, wanted = list(changed), is_paper_by_rows(web, changed)
                met[wanted] += changed != rows
                self.assertIs(is_paper(made, changed), wanted, (web, changed))
                self.assertEqual(changed, ahead)
        self.assertGreater(met[True], 20)
        self.assertGreater(met[False], 5000)

    def test_the_paper_of_another_web(self):
        met = {True: 0, False: 0}
        papers = webs_without_hands(33, 60)
        for web, rows in papers:
            for other, unread in papers:
                if other[0] >= web[0]:
                    wanted = is_paper_by_rows(other, rows)
                    met[wanted] += 1
                    self.assertIs(is_paper(Web(*other), rows), wanted, (other, rows))
        self.assertGreater(met[False], 1000)

    def test_rows_drawn_by_the_words(self):
        chance, met, words = random.Random(34), {True: 0, False: 0}, set()
        for turn in range(400):
            many = chance.randint(2, 6)
            web = following_web(chance, many, chance.choice((5, 20)), chance.randint(1, many - 1), 2, 8)
            rows = drawn_rows(chance, web, 120)
            words |= {row[1] for row in rows}
            wanted = is_paper_by_rows(web, rows)
            met[wanted] += 1
            self.assertIs(is_paper(Web(*web), rows), wanted, (web, rows))
            for at in chance.sample(range(len(rows)), 3):
                what, word, used = rows[at]
                other = (what[:3] + (what[3] + chance.choice((-1, 1)),), word, used)
                changed = rows[:at] + [other] + rows[at + 1:]
                self.assertIs(is_paper(Web(*web), changed), is_paper_by_rows(web, changed), (web, changed))
        self.assertGreater(min(met.values()), 50)
        self.assertEqual(words, set(WORDS))

    def test_rows_that_nearly_follow(self):
        """A row put in ahead of the last one, which needs it not."""
        chance, met = random.Random(36), {}
        for web, rows in webs_without_hands(37, 400):
            if not web[3] or len(rows) < 5:
                continue
            made, ahead, last = Web(*web), rows[:-1], rows[-1]
            for turn in range(60):
                word = chance.choice(WORDS[1:])
                used = tuple(chance.randrange(len(ahead)) for place in range(2 if word in ("sum", "back") else 1))
                what = loosely_concluded(web, word, [ahead[number][0] for number in used])
                changed = ahead + [(what, word, used), last]
                wanted = is_paper_by_rows(web, changed)
                met[word, wanted] = met.get((word, wanted), 0) + 1
                self.assertIs(is_paper(made, changed), wanted, (web, changed))
        self.assertEqual(len(met), 12)


class WordsTest(unittest.TestCase):
    """Each word by itself: rows that end with a bar are papers just where the row in question follows."""

    def setUp(self):
        # Ends 2, 3 to 8 behind 0, and 3, 2 to 4 behind 1; nobody keeps 1 at nought and yet 9 behind 0.
        self.web = Web(4, 20, [(0, 1, 0, 0), (0, 1, 9, 9)], [(0, 2, 3, 8), (1, 3, 2, 4)])
        self.bar = [(("tie", 0, 1, 0), "told", ()), (("tie", 1, 0, -9), "told", ())]

    def follows(self, rows):
        """Whether the rows stand; a bar that needs none of them ends the paper."""
        count = len(rows)
        whole = rows + self.bar + [(("tie", 0, 0, -9), "sum", (count, count + 1))]
        return is_paper(self.web, whole)

    def test_bar_by_itself(self):
        self.assertIs(self.follows([]), True)
        self.assertIs(is_paper(self.web, []), False)
        self.assertIs(is_paper(self.web, self.bar), False)

    def test_last_row(self):
        ring = self.bar + [(("tie", 0, 0, -9), "sum", (0, 1))]
        self.assertIs(is_paper(self.web, ring + [(("tie", 0, 3, 20), "told", ())]), False)
        self.assertIs(is_paper(self.web, ring + [(("tie", 1, 1, -9), "sum", (1, 0))]), True)
        self.assertIs(is_paper(self.web, ring + [(("tie", 0, 0, -18), "sum", (2, 2))]), True)
        none = [(("tie", 0, 1, 9), "told", ()), (("tie", 1, 0, -9), "told", ()), (("tie", 0, 0, 0), "sum", (0, 1))]
        self.assertIs(is_paper(self.web, none), False)
        below = none[:2] + [(("tie", 1, 0, -18), "sum", (1, 2))]
        self.assertIs(is_paper(self.web, none + below[2:]), False)

    def test_told(self):
        for what in [("tie", 0, 3, 20), ("tie", 3, 0, 0), ("tie", 0, 1, 9), ("tie", 2, 0, -3), ("tie", 1, 3, 4)]:
            self.assertIs(self.follows([(what, "told", ())]), True, what)
        for what in [("tie", 0, 3, 21), ("tie", 0, 3, 19), ("tie", 2, 0, -4), ("tie", 0, 0, 0), ("tie", 1, 2, 20),
                     ("wait", 0, 2, 8), ("wait", 0, 3, 20), ("tie", 0, 0, 20)]:
            self.assertIs(self.follows([(what, "told", ())]), False, what)
        self.assertIs(self.follows([self.bar[0], (("tie", 0, 3, 20), "told", (0,))]), False)

    def test_sum(self):
        rows = [(("tie", 0, 2, 8), "told", ()), (("tie", 2, 0, -3), "told", ())]
        self.assertIs(self.follows(rows + [(("tie", 0, 0, 5), "sum", (0, 1))]), True)
        self.assertIs(self.follows(rows + [(("tie", 2, 2, 5), "sum", (1, 0))]), True)
        self.assertIs(self.follows(rows + [(("tie", 2, 2, 5), "sum", (0, 1))]), False)
        self.assertIs(self.follows(rows + [(("tie", 0, 2, 16), "sum", (0, 0))]), False)
        self.assertIs(self.follows(rows + [(("tie", 0, 0, 6), "sum", (0, 1))]), False)

    def test_late(self):
        rows = [(("tie", 0, 2, 20), "told", ()), (("tie", 0, 1, 9), "told", ()), (("tie", 2, 0, 0), "told", ()),
                (("tie", 2, 2, 20), "sum", (2, 0))]
        self.assertIs(self.follows(rows + [(("wait", 0, 2, -12), "late", (0,))]), True)
        self.assertIs(self.follows(rows + [(("wait", 0, 2, -17), "late", (0,))]), False)
        self.assertIs(self.follows(rows + [(("tie", 0, 2, -12), "late", (0,))]), False)
        # Moment 1 is no end; and an end does not wait for itself.
        self.assertIs(self.follows(rows + [(("wait", 0, 1, -1), "late", (1,))]), False)
        self.assertIs(self.follows(rows + [(("wait", 2, 2, -12), "late", (3,))]), False)

    def test_soon(self):
        rows = [(("tie", 2, 0, -3), "told", ()), (("tie", 2, 0, 0), "told", ()), (("tie", 1, 0, -9), "told", ()),
                (("tie", 0, 2, 8), "told", ()), (("tie", 0, 1, 0), "told", ()), (("tie", 2, 1, -3), "sum", (0, 4)),
                (("tie", 0, 1, 0), "soon", (5,)), (("tie", 1, 2, -1), "sum", (2, 3)),
                (("tie", 2, 2, -4), "sum", (5, 7))]
        self.assertIs(self.follows(rows), True)
        self.assertIs(self.follows(rows + [(("tie", 0, 0, 0), "soon", (0,))]), True)
        # Neither where the tie is at nought, nor of an own moment, nor of an end to itself.
        self.assertIs(self.follows(rows + [(("tie", 0, 0, 3), "soon", (1,))]), False)
        self.assertIs(self.follows(rows + [(("tie", 0, 0, -6), "soon", (2,))]), False)
        self.assertIs(self.follows(rows + [(("tie", 0, 2, -1), "soon", (8,))]), False)

    def test_sure(self):
        rows = [(("tie", 0, 2, 20), "told", ()), (("wait", 0, 2, -12), "late", (0,)),
                (("tie", 1, 0, -9), "told", ()), (("wait", 1, 2, -3), "back", (1, 2)),
                (("tie", 0, 2, 8), "told", ()), (("wait", 0, 2, 0), "late", (4,)), (("wait", 1, 2, 9), "back", (5, 2))]
        self.assertIs(self.follows(rows), True)
        self.assertIs(self.follows(rows + [(("tie", 1, 0, 3), "sure", (3,))]), True)
        self.assertIs(self.follows(rows + [(("tie", 1, 0, -3), "sure", (6,))]), True)
        self.assertIs(self.follows(rows + [(("tie", 1, 0, -9), "sure", (6,))]), False)
        self.assertIs(self.follows(rows + [(("tie", 1, 0, -3), "sure", (2,))]), False)

    def test_back(self):
        rows = [(("tie", 1, 0, -9), "told", ()), (("tie", 0, 2, 8), "told", ()), (("wait", 0, 2, 0), "late", (1,)),
                (("wait", 1, 2, 9), "back", (2, 0)), (("tie", 0, 1, 0), "told", ()), (("tie", 2, 0, -3), "told", ())]
        self.assertIs(self.follows(rows), True)
        # No more than the most, 8, is handed on.
        self.assertIs(self.follows(rows + [(("wait", 0, 2, 8), "back", (3, 4))]), True)
        self.assertIs(self.follows(rows + [(("wait", 0, 2, 9), "back", (3, 4))]), False)
        self.assertIs(self.follows(rows + [(("wait", 0, 2, 8), "back", (4, 3))]), False)
        self.assertIs(self.follows(rows + [(("wait", 2, 2, 3), "back", (2, 5))]), False)
        self.assertIs(self.follows(rows + [(("wait", 1, 2, 8), "back", (3, 0))]), False)
        # The tie has to lead to the moment that waits.
        self.assertIs(self.follows(rows + [(("wait", 0, 2, 0), "back", (2, 4))]), False)

    def test_cross(self):
        rows = [(("tie", 0, 2, 8), "told", ()), (("wait", 0, 2, 0), "late", (0,)), (("tie", 3, 0, 0), "told", ()),
                (("wait", 3, 2, 0), "back", (1, 2)), (("tie", 1, 0, -9), "told", ()), (("tie", 3, 1, -2), "told", ()),
                (("tie", 3, 0, -11), "sum", (5, 4)), (("wait", 3, 2, 11), "back", (1, 6)),
                (("wait", 1, 2, 9), "back", (1, 4))]
        self.assertIs(self.follows(rows), True)
        # No more than the most, 8, is handed on, 2 sooner.
        self.assertIs(self.follows(rows + [(("wait", 1, 2, 6), "cross", (7,))]), True)
        self.assertIs(self.follows(rows + [(("wait", 1, 2, 9), "cross", (7,))]), False)
        self.assertIs(self.follows(rows + [(("wait", 1, 2, 4), "cross", (7,))]), False)
        # Neither where the wait is at nought nor of an own moment.
        self.assertIs(self.follows(rows + [(("wait", 1, 2, -2), "cross", (3,))]), False)
        self.assertIs(self.follows(rows + [(("wait", 0, 2, 8), "cross", (8,))]), False)

    def test_rows_named_are_rows_ahead(self):
        self.assertIs(is_paper(self.web, self.bar + [(("tie", 0, 0, -9), "sum", (-3, -2))]), False)
        self.assertIs(is_paper(self.web, self.bar[:1] + [(("tie", 0, 0, -9), "sum", (0, 2))] + self.bar[1:]), False)
        self.assertIs(is_paper(self.web, [(("tie", 0, 0, -9), "sum", (0, 0))]), False)
        self.assertIs(is_paper(self.web, self.bar + [(("tie", 0, 0, -9), "sum", (0, 1, 1))]), False)
        self.assertIs(is_paper(self.web, self.bar + [(("tie", 0, 0, -9), "sum", ())]), False)
        self.assertIs(is_paper(self.web, self.bar + [(("tie", 0, 0, -9), "sum", (0, 3))]), False)

    def test_no_row_follows_from_itself_or_from_the_last_one(self):
        none = [(("tie", 0, 1, 9), "told", ()), (("tie", 1, 0, -9), "told", ()), (("tie", 0, 0, 0), "sum", (0, 1))]
        self.assertIs(is_paper(self.web, none + [(("tie", 0, 0, -5), "sum", (3, 2))]), False)
        self.assertIs(self.follows(none + [(("tie", 0, 0, 0), "sum", (3, 3))]), False)
        self.assertIs(self.follows([(("tie", 0, 0, -18), "sum", (-1, -1))]), False)

    def test_words_that_tell_something_else(self):
        for word in ["told", "late", "soon", "sure", "back", "cross", "tie", "wait"]:
            self.assertIs(is_paper(self.web, self.bar + [(("tie", 0, 0, -9), word, (0, 1))]), False, word)

    def test_long_papers(self):
        rows = self.bar + [(("tie", 0, 0, -9), "sum", (0, 1))]
        for turn in range(3000):
            rows.append((("tie", 0, 0, rows[-1][0][3] - 9), "sum", (len(rows) - 1, 2)))
        self.assertIs(is_paper(self.web, rows), True)


class AskedAgainTest(unittest.TestCase):
    def test_asking_twice_and_changing_what_was_handed_in(self):
        web, rows = webs_without_hands(35, 1)[0]
        made, ahead = Web(*web), list(rows)
        self.assertEqual([is_paper(made, rows) for turn in range(3)], [True] * 3)
        self.assertEqual(rows, ahead)
        rows.append(rows[0])
        self.assertIs(is_paper(made, rows), False)
        self.assertIs(is_paper(made, ahead), True)


if __name__ == "__main__":
    unittest.main()
