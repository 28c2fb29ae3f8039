import random
import unittest

from momentties.closing import kept
from momentties.errors import BadFall, NoHand
from momentties.hands import Hand
from momentties.webs import Web
from tests.reckoning import (deeds_by_rule, drawn_lengths, ends_due, following_web, is_kept, is_paper_by_rows,
                             may_fall, outcomes, own_moments, rule_holds, some_hand_keeps, some_web)


def small_webs():
    chance = random.Random(41)
    for turn in range(500):
        many, last = chance.randint(1, 4), chance.randint(1, 4)
        fall_count = min(many - 1, chance.randint(0, 2))
        yield following_web(chance, many, last, fall_count, chance.randint(0, 2), chance.randint(1, last))


def large_webs():
    chance = random.Random(42)
    for many in range(3, 9):
        for last, longest in ((20, 8), (60, 15), (60, 30), (60, 60)):
            for fall_count in sorted({0, 1, 2, many // 2, many - 1}):
                for tie_count in (0, 0, 1):
                    yield following_web(chance, many, last, fall_count, tie_count, longest)
        yield some_web(chance, many, 60, chance.randint(1, many - 1), many, 30)


def kept_webs():
    """The webs of both kinds that some hand keeps, with their rules."""
    for web in list(small_webs()) + list(large_webs()):
        answer = kept(Web(*web))
        if answer[0] == "rule":
            yield web, answer[1], answer[2]


def wrong_tellings(web, times, due, now):
    """Each wrong telling that can be made now of what is due, with a word for what is wrong."""
    many, falls = web[0], web[3]
    may, has_to = may_fall(web, times, now)
    for moment in own_moments(web):
        yield "own", due + [moment]
    for number in (-1, many, many + 7, -many):
        yield "no moment", [number] + due
    for end in due:
        yield "twice", due + [end]
    for end in has_to:
        yield "left out", [other for other in due if other != end]
    for one, end, least, most in falls:
        if times[end] is not None:
            yield "twice", due + [end]
        elif times[one] is None:
            yield "not begun", due + [end]
        elif end not in may:
            yield "too short", [end] + due


class Held(unittest.TestCase):
    def held_refused(self, hand, fallen):
        ahead, times = list(fallen), hand.times()
        with self.assertRaises(BadFall) as caught:
            hand.goes(fallen)
        self.assertIs(type(caught.exception), BadFall)
        self.assertEqual((fallen, hand.times()), (ahead, times))


class PlayTest(Held):
    def play(self, web, ties, waits, lengths, chance):
        """Holds each deed against point 12, and what comes of all against points 2, 3 and 9."""
        hand, times = Hand(Web(*web)), [None] * web[0]
        for now in range(web[1] + 1):
            self.assertIs(hand.is_over(), None not in times)
            fallen = ends_due(web, times, lengths, now)
            chance.shuffle(fallen)
            ahead = list(fallen)
            for end in fallen:
                times[end] = now
            wanted = deeds_by_rule(web, ties, waits, times, now)
            deeds = hand.goes(fallen)
            self.assertIs(type(deeds), list)
            self.assertEqual((deeds, fallen), (sorted(wanted), ahead))
            for moment in deeds:
                times[moment] = now
            self.assertEqual(hand.times(), times)
            deeds.append("more")
            fallen.append("more")
        self.assertIs(hand.is_over(), True)
        self.assertTrue(is_kept(web, times), (lengths, times))
        self.assertTrue(rule_holds(web, ties, waits, times), (lengths, times))

    def test_small_webs_by_every_way_of_falling_out(self):
        chance, met = random.Random(43), {True: 0, False: 0}
        for web in small_webs():
            with self.subTest(web=web):
                answer = kept(Web(*web))
                met[answer[0] == "rule"] += 1
                self.assertEqual(answer[0] == "rule", some_hand_keeps(web))
                if answer[0] == "paper":
                    with self.assertRaises(NoHand):
                        Hand(Web(*web))
                    continue
                for lengths in outcomes(web[3]):
                    self.play(web, answer[1], answer[2], lengths, chance)
        self.assertGreater(min(met.values()), 100)

    def test_large_webs_by_drawn_ways_of_falling_out(self):
        chance, met = random.Random(44), {"rule": 0, "paper": 0}
        for web in large_webs():
            with self.subTest(web=web):
                answer = kept(Web(*web))
                met[answer[0]] += 1
                if answer[0] == "paper":
                    with self.assertRaises(NoHand):
                        Hand(Web(*web))
                    continue
                for lengths in drawn_lengths(chance, web[3], 5):
                    self.play(web, answer[1], answer[2], lengths, chance)
        self.assertGreater(min(met.values()), 80)


class DeedsTest(Held):
    def test_one_moment(self):
        hand = Hand(Web(1, 1, [], []))
        self.assertEqual((hand.times(), hand.is_over()), ([None], False))
        self.assertEqual(hand.goes([]), [0])
        self.assertEqual((hand.times(), hand.is_over()), ([0], True))

    def test_all_that_can_come_at_once(self):
        hand = Hand(Web(5, 9, [(1, 2, 0, 0), (2, 3, 0, 0), (3, 1, 0, 0), (0, 4, 2, 9)], []))
        self.assertEqual([hand.goes([]) for turn in range(3)], [[0, 1, 2, 3], [], [4]])
        self.assertEqual(hand.times(), [0, 0, 0, 0, 2])

    def test_at_the_very_time_at_which_an_end_is_seen(self):
        hand = Hand(Web(3, 9, [(2, 1, 0, 0)], [(0, 2, 2, 5)]))
        self.assertEqual([hand.goes(fallen) for fallen in ([], [], [], [2])], [[0], [], [], [1]])
        self.assertEqual(hand.times(), [0, 3, 3])

    def test_some_time_behind_an_end(self):
        hand = Hand(Web(3, 9, [(2, 1, 2, 2)], [(0, 2, 2, 5)]))
        self.assertEqual([hand.goes(fallen) for fallen in ([], [], [2], [], [])], [[0], [], [], [], [1]])

    def test_waits_till_the_end_is_seen_or_long_enough(self):
        web = Web(3, 9, [(1, 2, 0, 2)], [(0, 2, 2, 6)])
        late, soon = Hand(web), Hand(web)
        self.assertEqual([late.goes([]) for turn in range(5)], [[0], [], [], [], [1]])
        self.assertEqual([soon.goes(fallen) for fallen in ([], [], [], [2])], [[0], [], [], [1]])

    def test_a_fall_that_begins_later(self):
        hand = Hand(Web(4, 9, [(0, 1, 3, 9), (2, 3, 1, 1)], [(1, 2, 1, 2)]))
        self.assertEqual([hand.goes(fallen) for fallen in ([], [], [], [], [], [2], [])],
                         [[0], [], [], [1], [], [], [3]])
        self.assertEqual((hand.times(), hand.is_over()), ([0, 3, 5, 6], True))

    def test_nothing_is_left_to_do_when_all_is_over(self):
        hand = Hand(Web(2, 1, [], []))
        self.assertEqual([hand.goes([]) for turn in range(4)], [[0, 1], [], [], []])
        self.assertEqual((hand.times(), hand.is_over()), ([0, 0], True))

    def test_two_hands_of_one_web(self):
        web = Web(3, 9, [(2, 1, 0, 0)], [(0, 2, 1, 5)])
        one, other = Hand(web), Hand(web)
        one.goes([])
        self.assertEqual(one.goes([2]), [1])
        self.assertEqual(other.times(), [None, None, None])
        self.assertEqual([other.goes([]), other.goes([])], [[0], []])


class NoHandTest(Held):
    def test_paper(self):
        met = 0
        for web in list(small_webs()) + list(large_webs()):
            answer = kept(Web(*web))
            if answer[0] == "rule":
                continue
            with self.subTest(web=web):
                met += 1
                with self.assertRaises(NoHand) as caught:
                    Hand(Web(*web))
                self.assertIs(type(caught.exception), NoHand)
                self.assertIs(type(caught.exception.paper), list)
                self.assertTrue(is_paper_by_rows(web, caught.exception.paper))
        self.assertGreater(met, 200)

    def test_same_paper_when_the_one_given_is_changed(self):
        web, papers = Web(3, 9, [(2, 1, -2, -1)], [(0, 2, 2, 5)]), []
        for turn in range(3):
            with self.assertRaises(NoHand) as caught:
                Hand(web)
            papers.append(list(caught.exception.paper))
            caught.exception.paper.clear()
        self.assertEqual(papers, papers[:1] * 3)
        self.assertNotEqual(papers[0], [])


class BadFallTest(Held):
    def test_each_wrong_telling_and_going_on_behind_it(self):
        chance, met = random.Random(45), {}
        for web, ties, waits in kept_webs():
            for lengths in drawn_lengths(chance, web[3], 1):
                hand, other = Hand(Web(*web)), Hand(Web(*web))
                for now in range(web[1] + 2):
                    times = hand.times()
                    due = ends_due(web, times, lengths, now)
                    for wrong, fallen in wrong_tellings(web, times, due, now):
                        met[wrong] = met.get(wrong, 0) + 1
                        self.held_refused(hand, fallen)
                    self.assertEqual(hand.goes(due), other.goes(due))
                    self.assertEqual((hand.times(), hand.is_over()), (other.times(), other.is_over()))
        self.assertEqual(set(met), {"own", "no moment", "twice", "left out", "not begun", "too short"})
        self.assertGreater(min(met.values()), 100)

    def test_too_soon_and_too_late(self):
        hand = Hand(Web(3, 20, [(0, 1, 2, 9)], [(1, 2, 2, 3)]))
        for turn in range(2):
            self.held_refused(hand, [2])
            hand.goes([])
        self.held_refused(hand, [2])
        self.assertEqual(hand.goes([]), [1])
        self.held_refused(hand, [2])
        hand.goes([])
        hand.goes([])
        self.held_refused(hand, [])
        self.assertEqual(hand.goes([2]), [])
        self.assertEqual(hand.times(), [0, 2, 5])

    def test_one_wrong_number_beside_a_right_one(self):
        hand = Hand(Web(4, 9, [], [(0, 1, 1, 3), (0, 2, 2, 3)]))
        hand.goes([])
        for fallen in ([1, 2], [2, 1], [1, 3], [1, 0], [1, 1], [1, 9], [-3, 1]):
            self.held_refused(hand, fallen)
        hand.goes([1])
        for fallen in ([1], [2, 1], [2, 2]):
            self.held_refused(hand, fallen)
        hand.goes([])
        for fallen in ([], [1], [2, 1]):
            self.held_refused(hand, fallen)
        hand.goes([2])
        self.assertEqual((hand.times(), hand.is_over()), ([0, 1, 3, 0], True))
        for fallen in ([1], [2], [0], [3]):
            self.held_refused(hand, fallen)

    def test_nothing_falls_out_at_time_0(self):
        hand = Hand(Web(2, 9, [], [(0, 1, 1, 3)]))
        for fallen in ([1], [0], [2], [-1]):
            self.held_refused(hand, fallen)
        self.assertEqual(hand.goes([]), [0])


class CopiesTest(Held):
    def test_times_given_back_may_be_changed(self):
        hand = Hand(Web(3, 9, [(2, 1, 0, 0)], [(0, 2, 1, 5)]))
        for fallen, deeds in (([], [0]), ([], []), ([2], [1])):
            given = hand.times()
            given.append("more")
            given[0] = "other"
            self.assertEqual(hand.goes(fallen), deeds)
            self.assertEqual(hand.times(), hand.times())
        self.assertEqual(hand.times(), [0, 2, 2])

    def test_deeds_given_back_and_ends_handed_in_may_be_changed(self):
        hand = Hand(Web(3, 9, [(2, 1, 0, 0)], [(0, 2, 1, 5)]))
        hand.goes([]).append(1)
        fallen = [2]
        hand.goes(fallen).clear()
        self.assertEqual(fallen, [2])
        fallen.clear()
        self.assertEqual((hand.times(), hand.is_over()), ([0, 1, 1], True))

    def test_lists_of_the_web_are_not_drawn_on_again(self):
        ties, falls = [(2, 1, 0, 0)], [(0, 2, 1, 5)]
        hand = Hand(Web(3, 9, ties, falls))
        self.assertEqual((ties, falls), ([(2, 1, 0, 0)], [(0, 2, 1, 5)]))
        ties.append((0, 1, 9, 9))
        falls.clear()
        self.assertEqual([hand.goes([]), hand.goes([2])], [[0], [1]])


if __name__ == "__main__":
    unittest.main()
