import random
import unittest

from momentties.errors import BadWeb
from momentties.webs import Web
from tests.reckoning import own_moments, some_web

GOOD_TIE = (0, 1, -60, 60)
GOOD_FALLS = [(1, 4, 1, 60), (1, 2, 60, 60)]

# Each of these is for a web of five moments.
BAD_TIES = [
    ((5, 0, 0, 1), "moment"), ((0, 5, 0, 1), "moment"), ((-1, 0, 0, 1), "moment"), ((0, -1, 0, 1), "moment"),
    ((2, 2, 0, 1), "moment"), ((0, 0, 0, 0), "moment"),
    ((0, 1, 3, 2), "span"), ((0, 1, -61, 0), "span"), ((0, 1, 0, 61), "span"), ((0, 1, 61, 61), "span"),
    ((0, 1, -61, -61), "span"), ((0, 1, 60, -60), "span"),
    ((7, 0, 5, 2), "moment"), ((3, 3, 0, 99), "moment"),
]
BAD_FALLS = [
    ((5, 3, 1, 2), "fall"), ((0, 5, 1, 2), "fall"), ((-1, 3, 1, 2), "fall"), ((0, -1, 1, 2), "fall"),
    ((3, 3, 1, 2), "fall"), ((0, 0, 1, 2), "fall"), ((1, 0, 1, 2), "fall"),
    ((0, 4, 1, 2), "fall"), ((1, 4, 1, 2), "fall"), ((4, 3, 1, 2), "fall"), ((2, 3, 1, 2), "fall"),
    ((0, 3, 0, 2), "length"), ((0, 3, 3, 2), "length"), ((0, 3, 1, 61), "length"), ((0, 3, 61, 61), "length"),
    ((0, 3, -2, -1), "length"), ((0, 3, 0, 0), "length"),
    ((4, 3, 0, 2), "fall"), ((3, 3, 9, 2), "fall"),
]
# Those of the falls above that are wrong because of the good falls ahead of them.
BY_EARLIER = [(0, 4, 1, 2), (1, 4, 1, 2), (4, 3, 1, 2), (2, 3, 1, 2)]


class WebsTest(unittest.TestCase):
    def refused(self, at, why, many, last, ties, falls):
        with self.subTest(web=(many, last, ties, falls)):
            ties_ahead, falls_ahead = list(ties), list(falls)
            with self.assertRaises(BadWeb) as caught:
                Web(many, last, ties, falls)
            self.assertIs(type(caught.exception), BadWeb)
            self.assertEqual((caught.exception.at, caught.exception.why), (at, why))
            self.assertEqual((ties, falls), (ties_ahead, falls_ahead))

    def test_webs_that_can_be(self):
        chance = random.Random(1)
        for many in range(1, 9):
            for last in (1, 20, 60):
                for fall_count in sorted({0, min(2, many - 1), many - 1}):
                    web = some_web(chance, many, last, fall_count, 4, 5, wild=2)
                    ties, falls = list(web[2]), list(web[3])
                    made = Web(*web)
                    self.assertEqual((web[2], web[3]), (ties, falls))
                    self.assertEqual((made.ties(), made.falls()), (ties, falls))
                    self.assertEqual(made.own(), own_moments(web))
                    self.assertIs(type(made.ties()), list)
                    self.assertIs(type(made.falls()), list)

    def test_own_moments(self):
        self.assertEqual(Web(1, 1, [], []).own(), [0])
        self.assertEqual(Web(8, 60, [], []).own(), [0, 1, 2, 3, 4, 5, 6, 7])
        self.assertEqual(Web(5, 9, [], [(3, 1, 1, 2), (0, 4, 1, 1)]).own(), [0, 2, 3])
        self.assertEqual(Web(4, 9, [], [(0, 3, 1, 2), (0, 1, 1, 1), (0, 2, 1, 1)]).own(), [0])

    def test_widest_numbers_are_taken(self):
        ties = [(0, 1, -60, 60), (1, 0, 60, 60), (1, 0, -60, -60), (0, 1, 0, 0)]
        falls = [(0, 1, 1, 60), (0, 2, 60, 60), (0, 3, 1, 1)]
        made = Web(4, 60, ties, falls)
        self.assertEqual((made.ties(), made.falls()), (ties, falls))

    def test_many(self):
        for many in (-1, 0, 9, 10, 100):
            self.refused(0, "many", many, 20, [], [])
            self.refused(0, "many", many, 0, [(0, 0, 1, 0)], [(0, 0, 1, 0)])

    def test_last(self):
        for last in (-1, 0, 61, 100):
            self.refused(0, "last", 3, last, [], [])
            self.refused(0, "last", 3, last, [(0, 1, 0, 1), (0, 0, 1, 0)], [(0, 0, 1, 0)])

    def test_last_may_be_less_than_spans(self):
        self.assertEqual(Web(3, 1, [(0, 1, 60, 60)], [(0, 2, 60, 60)]).own(), [0, 1])

    def test_bad_ties(self):
        for bad, why in BAD_TIES:
            self.refused(0, why, 5, 20, [bad], [])
            self.refused(2, why, 5, 20, [GOOD_TIE, GOOD_TIE, bad], GOOD_FALLS)
            self.refused(1, why, 5, 20, [GOOD_TIE, bad, GOOD_TIE], GOOD_FALLS)
            for worse, unheard in BAD_TIES:
                self.refused(1, why, 5, 20, [GOOD_TIE, bad, worse], [(0, 0, 0, 0)])

    def test_a_web_of_one_moment_has_no_ties_and_no_falls(self):
        self.refused(0, "moment", 1, 20, [(0, 0, 0, 0)], [])
        self.refused(0, "moment", 1, 20, [(0, 1, 0, 0)], [])
        self.refused(0, "fall", 1, 20, [], [(0, 1, 1, 1)])

    def test_bad_falls_behind_good_ones(self):
        for bad, why in BAD_FALLS:
            self.refused(2, why, 5, 20, [GOOD_TIE], GOOD_FALLS + [bad])

    def test_bad_falls_alone_and_ahead_of_good_ones(self):
        for bad, why in BAD_FALLS:
            if bad not in BY_EARLIER and bad != (4, 3, 0, 2):
                self.refused(0, why, 5, 20, [], [bad])
                self.refused(0, why, 5, 20, [GOOD_TIE], [bad, (1, 2, 1, 1), (1, 4, 2, 3)])

    def test_bad_falls_ahead_of_other_bad_ones(self):
        for bad, why in BAD_FALLS:
            for worse in [(7, 4, 1, 1), (0, 4, 1, 1), (1, 3, 5, 4), (1, 2, 1, 1)]:
                self.refused(2, why, 5, 20, [], GOOD_FALLS + [bad, worse])

    def test_bad_tie_ahead_of_bad_fall(self):
        self.refused(2, "span", 3, 20, [GOOD_TIE, GOOD_TIE, (0, 1, 2, 1)], [(0, 0, 0, 0)])
        self.refused(1, "length", 3, 20, [GOOD_TIE], [(0, 1, 1, 1), (0, 2, 0, 1)])

    def test_beginning_that_is_the_end_of_a_fall(self):
        self.refused(0, "fall", 4, 20, [], [(1, 2, 1, 1), (0, 1, 1, 1)])
        self.refused(1, "fall", 4, 20, [], [(0, 3, 1, 1), (1, 2, 1, 1), (0, 1, 1, 1)])
        self.refused(1, "fall", 4, 20, [], [(0, 1, 1, 1), (1, 2, 1, 1)])
        self.refused(0, "fall", 4, 20, [], [(1, 2, 1, 1), (2, 1, 1, 1)])

    def test_beginning_that_is_the_end_of_a_later_bad_fall(self):
        self.refused(0, "fall", 4, 20, [], [(1, 2, 1, 1), (0, 1, 5, 4)])
        self.refused(0, "fall", 4, 20, [], [(1, 2, 1, 1), (9, 1, 1, 1)])
        self.refused(0, "fall", 4, 20, [], [(1, 2, 5, 4), (0, 1, 1, 1)])
        # Moment 0 may be no end, but it is the one that the later fall tells.
        self.refused(0, "fall", 4, 20, [], [(0, 2, 1, 1), (1, 0, 1, 1)])

    def test_same_end_twice_is_told_of_the_later_fall(self):
        self.refused(1, "fall", 4, 20, [], [(0, 2, 1, 1), (1, 2, 1, 1)])
        self.refused(2, "fall", 4, 20, [], [(0, 2, 1, 1), (0, 3, 1, 1), (0, 2, 1, 1)])

    def test_lists_handed_in_may_be_changed_later(self):
        ties, falls = [(0, 1, 2, 3)], [(0, 2, 1, 2)]
        made = Web(3, 9, ties, falls)
        ties.append((1, 0, 5, 5))
        falls[0] = (0, 1, 7, 7)
        self.assertEqual((made.ties(), made.falls(), made.own()), ([(0, 1, 2, 3)], [(0, 2, 1, 2)], [0, 1]))

    def test_what_is_given_back_may_be_changed(self):
        made = Web(3, 9, [(0, 1, 2, 3)], [(0, 2, 1, 2)])
        for given in (made.ties(), made.falls(), made.own()):
            given.append("more")
            given[0] = "other"
        self.assertEqual((made.ties(), made.falls(), made.own()), ([(0, 1, 2, 3)], [(0, 2, 1, 2)], [0, 1]))


if __name__ == "__main__":
    unittest.main()
