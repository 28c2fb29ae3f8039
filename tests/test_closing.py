import random
import unittest
from itertools import combinations_with_replacement, permutations, product

from momentties.closing import kept
from momentties.webs import Web
from tests.reckoning import (all_that_holds, drawn_lengths, following_web, is_kept, is_paper_by_rows, outcomes,
                             one_sided_web, rule_followed, rule_holds, some_hand_keeps, some_web)

WORDS = {"told", "sum", "late", "soon", "sure", "back", "cross"}


def is_kept_beside_the_fall(last, fall, least, most):
    """Closed form: moment 2 falls out behind 0, own moment 1 is least to most behind it."""
    soonest, longest = fall
    if longest > last:
        return False
    if least > 0:
        return longest + least <= last
    # From 0 on one waits for the end; ahead of it one has to go unseen, by one time that does for all.
    return most >= 0 or (soonest + most >= 0 and longest + least <= soonest + most)


def is_kept_behind_the_tie(last, fall, least, most):
    """Closed form: own moment 1 is least to most behind 0, moment 2 falls out behind it."""
    return max(0, least) <= most and max(0, least) + fall[1] <= last


def is_kept_round_the_fall(last, fall, least, most):
    """Closed form: moment 2 falls out behind own moment 1, and is least to most behind 0."""
    return max(0, least - fall[0]) + fall[1] <= min(most, last)


def is_kept_along_the_fall(last, fall, least, most):
    """Closed form: moment 2 falls out behind own moment 1, and is tied to it."""
    return least <= fall[0] and fall[1] <= most and fall[1] <= last


# By tie and fall: the moments of the tie, those of the fall, and the closed form.
FORMS = [
    ((2, 1), (0, 2), is_kept_beside_the_fall),
    ((0, 1), (1, 2), is_kept_behind_the_tie),
    ((0, 2), (1, 2), is_kept_round_the_fall),
    ((1, 2), (1, 2), is_kept_along_the_fall),
]


def tiny_webs():
    """Every web of some kinds: two or three moments, one fall or none, one tie."""
    spans = list(combinations_with_replacement(range(-2, 3), 2))
    for last in (1, 2, 3):
        for one, other in permutations(range(2), 2):
            for least, most in spans:
                yield 2, last, [(one, other, least, most)], []
                for fall in ((1, 1), (1, 2), (2, 2), (1, 3)):
                    yield 2, last, [(one, other, least, most)], [(0, 1) + fall]
    for begin, end, last in product((0, 1), (1, 2), (2, 3)):
        if begin == end:
            continue
        for one, other in permutations(range(3), 2):
            for (least, most), fall in product(spans, ((1, 1), (1, 2), (1, 3))):
                yield 3, last, [(one, other, least, most)], [(begin, end) + fall]


def small_webs():
    chance = random.Random(21)
    for turn in range(1500):
        many, last = chance.randint(2, 4), chance.randint(1, 4)
        fall_count = min(many - 1, chance.randint(0, 2))
        if chance.randrange(2):
            yield following_web(chance, many, last, fall_count, chance.randint(0, 3), chance.randint(1, last))
        elif chance.randrange(2):
            yield one_sided_web(chance, many, last, fall_count, chance.randint(1, 3), chance.randint(1, last))
        else:
            yield some_web(chance, many, last, fall_count, chance.randint(1, 4), 2, chance.choice((0, 9)))


def large_webs():
    chance = random.Random(22)
    for many in range(3, 9):
        for last, longest in ((20, 8), (60, 15), (60, 30), (60, 60)):
            for fall_count in sorted({0, 1, 2, many // 2, many - 1}):
                for tie_count in (0, 0, 1, 3):
                    yield following_web(chance, many, last, fall_count, tie_count, longest)
    for many in range(3, 9):
        for turn in range(6):
            yield some_web(chance, many, 60, chance.randint(1, many - 1), many, 20, 7)
        for turn in range(20):
            fall_count = chance.randint(1, max(1, many // 2))
            yield one_sided_web(chance, many, 60, fall_count, chance.randint(2, 5), chance.choice((8, 14, 40)))


class Held(unittest.TestCase):
    def held_in_form(self, web, answer):
        """A rule or a paper, as told; gives back the kind."""
        self.assertIs(type(answer), tuple)
        self.assertIn(answer[0], ("rule", "paper"))
        self.assertEqual(len(answer), 3 if answer[0] == "rule" else 2)
        for told in answer[1:]:
            self.assertIs(type(told), list)
            for each in told:
                self.assertIs(type(each), tuple)
                self.assertEqual(len(each), 3)
        if answer[0] == "rule":
            for told in answer[1:]:
                self.assertEqual(told, sorted(set(told)))
                self.assertTrue(all(type(number) is int for each in told for number in each))
        return answer[0]

    def held_by_point_10(self, web, ties, waits):
        held = all_that_holds(web)
        self.assertIsNotNone(held)
        for a, b, v in ties:
            self.assertLessEqual(held["tie", a, b], v)
        least_and_most = {fall[1]: fall[2:] for fall in web[3]}
        for a, e, v in waits:
            self.assertGreaterEqual(held["wait", a, e], v)
            least, most = least_and_most[e]
            self.assertTrue(least < v <= most, (a, e, v))

    def held_to_all_that_holds(self, web, ties, waits):
        """The README's own word: the narrowest ties, and the longest waits that lie between least and most."""
        held = all_that_holds(web)
        least_and_most = {fall[1]: fall[2:] for fall in web[3]}
        narrowest = [(a, b, v) for (kind, a, b), v in held.items() if kind == "tie" and a != b]
        longest = [(a, b, v) for (kind, a, b), v in held.items() if kind == "wait"]
        longest = [(a, e, v) for a, e, v in longest if least_and_most[e][0] < v <= least_and_most[e][1]]
        self.assertEqual((ties, waits), (sorted(narrowest), sorted(longest)))

    def held_in_what_comes(self, web, ties, waits, lengths):
        times = rule_followed(web, ties, waits, lengths)
        self.assertNotIn(None, times)
        self.assertTrue(is_kept(web, times), (lengths, times))
        self.assertTrue(rule_holds(web, ties, waits, times), (lengths, times))


class ClosedFormTest(Held):
    def test_one_fall_and_one_tie(self):
        met = {"rule": 0, "paper": 0}
        spans = list(combinations_with_replacement(range(-4, 6), 2))
        for (moments, of_fall, form), fall in product(FORMS, combinations_with_replacement(range(1, 5), 2)):
            for (least, most), last in product(spans, (1, 3, 4, 6)):
                wanted = "rule" if form(last, fall, least, most) else "paper"
                met[wanted] += 1
                falls = [of_fall + fall]
                found = kept(Web(3, last, [moments + (least, most)], falls))[0]
                turned = kept(Web(3, last, [moments[::-1] + (-most, -least)], falls))[0]
                self.assertEqual((found, turned), (wanted, wanted), (last, moments, least, most, falls))
        self.assertGreater(min(met.values()), 2000)

    def test_widest_numbers(self):
        self.assertEqual(kept(Web(2, 60, [], [(0, 1, 1, 60)]))[0], "rule")
        self.assertEqual(kept(Web(2, 59, [], [(0, 1, 1, 60)]))[0], "paper")
        self.assertEqual(kept(Web(3, 60, [(2, 1, 0, 0)], [(0, 2, 1, 60)]))[0], "rule")
        self.assertEqual(kept(Web(3, 60, [(2, 1, 1, 1)], [(0, 2, 1, 60)]))[0], "paper")
        self.assertEqual(kept(Web(3, 60, [(2, 1, 1, 1)], [(0, 2, 1, 59)]))[0], "rule")

    def test_one_moment(self):
        self.assertEqual(kept(Web(1, 1, [], [])), ("rule", [], []))


class SmallWebsTest(Held):
    def held(self, web):
        answer = kept(Web(*web))
        found = self.held_in_form(web, answer)
        self.assertEqual(found == "rule", some_hand_keeps(web))
        if found == "paper":
            self.assertTrue(is_paper_by_rows(web, answer[1]))
            self.assertIsNone(all_that_holds(web))
            return found
        self.held_by_point_10(web, answer[1], answer[2])
        self.held_to_all_that_holds(web, answer[1], answer[2])
        for lengths in outcomes(web[3]):
            self.held_in_what_comes(web, answer[1], answer[2], lengths)
        return found

    def test_every_tiny_web(self):
        met = {"rule": 0, "paper": 0}
        for web in tiny_webs():
            with self.subTest(web=web):
                met[self.held(web)] += 1
        self.assertGreater(min(met.values()), 300)

    def test_small_webs_by_every_deed_and_every_way_of_falling_out(self):
        met = {"rule": 0, "paper": 0}
        for web in small_webs():
            with self.subTest(web=web):
                met[self.held(web)] += 1
        self.assertGreater(min(met.values()), 300)


class LargeWebsTest(Held):
    def test_rules(self):
        chance, met, with_waits = random.Random(23), 0, 0
        for web in large_webs():
            answer = kept(Web(*web))
            if self.held_in_form(web, answer) == "paper":
                continue
            with self.subTest(web=web):
                met += 1
                with_waits += bool(answer[2])
                self.held_by_point_10(web, answer[1], answer[2])
                self.held_to_all_that_holds(web, answer[1], answer[2])
                for lengths in drawn_lengths(chance, web[3], 4):
                    self.held_in_what_comes(web, answer[1], answer[2], lengths)
        self.assertGreater(met, 100)
        self.assertGreater(with_waits, 60)

    def test_papers(self):
        met, words = 0, set()
        for web in large_webs():
            answer = kept(Web(*web))
            if self.held_in_form(web, answer) == "rule":
                continue
            with self.subTest(web=web):
                met += 1
                words |= {row[1] for row in answer[1]}
                self.assertTrue(is_paper_by_rows(web, answer[1]))
        self.assertGreater(met, 100)
        self.assertEqual(words, WORDS)

    def test_a_ring_of_ties_of_many_moments(self):
        ring = [(k, k + 1, 0, 60) for k in range(1, 7)]
        self.assertEqual(kept(Web(8, 60, ring + [(7, 1, 0, 60)], []))[0], "rule")
        broken = (8, 60, ring + [(7, 1, 1, 60)], [])
        self.assertTrue(is_paper_by_rows(broken, kept(Web(*broken))[1]))


class WordsTest(Held):
    """Webs that no hand keeps, each by a word that is needed."""

    def held_to_paper_with(self, word, web):
        kind, rows = kept(Web(*web))
        self.assertEqual(kind, "paper")
        self.assertTrue(is_paper_by_rows(web, rows))
        self.assertIn(word, [row[1] for row in rows])
        self.assertFalse(some_hand_keeps(web))

    def test_late(self):
        self.held_to_paper_with("late", (3, 9, [(2, 1, -2, -1)], [(0, 2, 2, 5)]))

    def test_soon(self):
        self.held_to_paper_with("soon", (3, 9, [(2, 1, -9, -3)], [(0, 2, 2, 5)]))

    def test_sure(self):
        self.held_to_paper_with("sure", (2, 9, [(0, 1, 0, 3)], [(0, 1, 2, 5)]))

    def test_back(self):
        # Moment 1 is not ahead of the end, moment 2 no more than 2 ahead of that, and yet ahead of the end.
        self.held_to_paper_with("back", (4, 9, [(3, 1, 0, 9), (2, 1, 0, 2), (3, 2, -9, -1)], [(0, 3, 2, 6)]))

    def test_cross(self):
        # The end 2 may come as soon as 1, the end 1 as late as 4, and 2 is to be no sooner than 1.
        self.held_to_paper_with("cross", (3, 9, [(1, 2, 0, 9)], [(0, 1, 1, 4), (0, 2, 1, 5)]))

    def test_back_of_a_wait_drawn_late(self):
        # Here "back" has to go on from waits that come of "cross", and no sum of ties stands in for it.
        for web in ((5, 3, [(1, 0, -1, 60), (3, 4, 0, 60)], [(2, 3, 1, 3), (1, 4, 1, 2)]),
                    (5, 9, [(0, 3, 0, 1), (4, 1, -5, 1)], [(3, 4, 1, 3), (0, 1, 1, 4), (3, 2, 3, 3)]),
                    (6, 9, [(0, 5, 1, 2), (3, 4, 0, 6)], [(0, 3, 2, 4), (0, 1, 2, 4), (5, 4, 1, 2)])):
            self.held_to_paper_with("back", web)

    def test_back_by_a_tie_drawn_late(self):
        # Here the wait is known ahead of the tie by which "back" goes on from it. By ties and falls:
        for many, ties, falls in (
                (7, [(4, 3, -60, 3), (4, 1, -6, 60)], [(6, 3, 2, 8), (6, 2, 1, 8), (5, 4, 2, 9), (6, 1, 5, 9)]),
                (7, [(1, 3, -4, 60), (4, 3, -60, 4)], [(2, 3, 1, 7), (0, 4, 5, 12), (6, 1, 1, 8), (6, 5, 2, 7)]),
                (8, [(5, 6, -60, 2), (5, 3, 0, 60)], [(4, 6, 2, 6), (4, 3, 6, 13), (2, 5, 1, 4)]),
                (8, [(5, 7, -2, 60), (2, 4, -2, 60), (7, 4, -60, 1)], [(3, 2, 1, 6), (1, 4, 1, 3), (0, 7, 4, 10)])):
            web = (many, 60, ties, falls)
            with self.subTest(web=web):
                kind, rows = kept(Web(*web))[:2]
                self.assertEqual(kind, "paper")
                self.assertTrue(is_paper_by_rows(web, rows))

    def test_ends_tied_to_one_another(self):
        web = (4, 9, [(1, 2, 0, 9)], [(0, 1, 1, 4), (3, 2, 1, 5)])
        kind, ties, waits = kept(Web(*web))
        self.assertEqual(kind, "rule")
        self.assertIn((3, 1, 3), waits)


class AskedAgainTest(unittest.TestCase):
    def test_same_answer_when_the_one_given_is_changed(self):
        for web in ((3, 9, [(1, 2, 0, 1)], [(0, 2, 2, 5)]), (3, 9, [(2, 1, -2, -1)], [(0, 2, 2, 5)])):
            made = Web(*web)
            ahead = repr(kept(made))
            for turn in range(3):
                answer = kept(made)
                self.assertEqual(repr(answer), ahead)
                for told in answer[1:]:
                    told.append("more")
                    told[0] = "other"
            self.assertEqual((made.ties(), made.falls()), web[2:])

    def test_lists_handed_in_are_not_drawn_on_again(self):
        ties, falls = [(1, 2, 0, 1)], [(0, 2, 2, 5)]
        made = Web(3, 9, ties, falls)
        ahead = kept(made)
        self.assertEqual((ties, falls), ([(1, 2, 0, 1)], [(0, 2, 2, 5)]))
        ties.append((0, 1, 60, 60))
        falls.clear()
        self.assertEqual(kept(made), ahead)


if __name__ == "__main__":
    unittest.main()
