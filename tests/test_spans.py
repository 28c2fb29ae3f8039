import random
import unittest

from momentties.errors import NoTimes
from momentties.spans import earliest, keeps, latest, spare, tight
from momentties.webs import Web
from tests.reckoning import (bounds, is_kept, is_ring, kept_times, some_web, spare_by_table, tight_by_choices,
                             tight_by_narrowing)


def table_by_choices(web):
    return tight_by_choices(web[0], kept_times(web))


def small_webs():
    """Webs of which every choice of times can be walked."""
    chance = random.Random(2)
    for many, last in ((1, 1), (1, 60), (2, 1), (2, 60), (3, 1), (3, 20), (4, 1), (4, 9), (5, 4), (8, 1)):
        for fall_count in sorted({0, 1 if many > 1 else 0, many - 1}):
            for wild in (0, 0, 0, 0, 2, 2, 3, 3, 3, 3):
                yield some_web(chance, many, last, fall_count, chance.randint(0, 5), last // 2 + 1, wild)


def large_webs():
    chance = random.Random(3)
    for many in range(3, 9):
        for last in (20, 60):
            for fall_count in (0, 2, many - 1):
                for wild in (0, 0, 3, 4, 6):
                    yield some_web(chance, many, last, fall_count, many, 12, wild)


class Held(unittest.TestCase):
    def held_to_ring(self, asked, web):
        with self.assertRaises(NoTimes) as caught:
            asked(Web(*web))
        self.assertIs(type(caught.exception), NoTimes)
        self.assertTrue(is_ring(caught.exception.ring, bounds(web), 2), caught.exception.ring)

    def all_refused(self, web):
        for asked in (tight, earliest, latest, spare):
            self.held_to_ring(asked, web)


class AgainstReckoningTest(Held):
    def test_small_webs_by_every_choice_of_times(self):
        met = {True: 0, False: 0}
        for web in small_webs():
            with self.subTest(web=web):
                choices, made = kept_times(web), Web(*web)
                met[bool(choices)] += 1
                if not choices:
                    self.all_refused(web)
                    continue
                self.assertEqual(tight(made), tight_by_choices(web[0], choices))
                self.assertEqual(earliest(made), [min(column) for column in zip(*choices)])
                self.assertEqual(latest(made), [max(column) for column in zip(*choices)])
                self.assertEqual(spare(made), spare_by_table(web, table_by_choices))
        self.assertGreater(met[True], 100)
        self.assertGreater(met[False], 20)

    def test_large_webs_by_striking_times(self):
        met = {True: 0, False: 0}
        for web in large_webs():
            with self.subTest(web=web):
                table, made = tight_by_narrowing(web), Web(*web)
                met[table is not None] += 1
                if table is None:
                    self.all_refused(web)
                    continue
                self.assertEqual(tight(made), table)
                self.assertEqual(earliest(made), [-row[0] for row in table])
                self.assertEqual(latest(made), table[0])
                self.assertTrue(keeps(made, earliest(made)))
                self.assertTrue(keeps(made, latest(made)))
        self.assertGreater(met[True], 60)
        self.assertGreater(met[False], 20)

    def test_spare_of_large_webs(self):
        chance = random.Random(4)
        for many, last, fall_count in ((5, 20, 2), (6, 20, 0), (8, 20, 3)):
            web = some_web(chance, many, last, fall_count, 7, 4)
            with self.subTest(web=web):
                self.assertEqual(spare(Web(*web)), spare_by_table(web, tight_by_narrowing))

    def test_the_two_reckonings_agree(self):
        for web in small_webs():
            with self.subTest(web=web):
                choices = kept_times(web)
                found = tight_by_choices(web[0], choices) if choices else None
                self.assertEqual(tight_by_narrowing(web), found)

    def test_keeps_is_true_just_where_all_holds(self):
        chance = random.Random(5)
        for web in list(small_webs()) + list(large_webs()):
            made = Web(*web)
            some = [[chance.randint(-1, web[1] + 1) for moment in range(web[0])] for turn in range(20)]
            try:
                some += [earliest(made), latest(made)]
            except NoTimes:
                pass
            for times in list(some):
                for moment in range(web[0]):
                    for step in (-1, 1):
                        some.append(times[:moment] + [times[moment] + step] + times[moment + 1:])
            for times in some:
                ahead = list(times)
                self.assertIs(keeps(made, times), is_kept(web, times), (web, times))
                self.assertEqual(times, ahead)


class TightTest(Held):
    def test_one_moment(self):
        made = Web(1, 1, [], [])
        self.assertEqual(tight(made), [[0]])
        self.assertEqual((earliest(made), latest(made), spare(made)), ([0], [0], []))
        self.assertIs(keeps(made, [0]), True)
        self.assertIs(keeps(made, [1]), False)

    def test_room_alone(self):
        self.assertEqual(tight(Web(3, 7, [], [])), [[0, 7, 7], [0, 0, 7], [0, 7, 0]])

    def test_spans_add_up_and_moments_may_be_ahead(self):
        made = Web(3, 20, [(0, 1, 3, 5), (2, 1, -4, -1)], [])
        self.assertEqual(tight(made), [[0, 5, 9], [-3, 0, 4], [-4, -1, 0]])
        self.assertEqual(earliest(made), [0, 3, 4])
        self.assertEqual(latest(made), [0, 5, 9])

    def test_falls_are_kept_like_ties(self):
        made = Web(3, 20, [(1, 2, 4, 4)], [(0, 1, 2, 6)])
        self.assertEqual(tight(made), [[0, 6, 10], [-2, 0, 4], [-6, -4, 0]])

    def test_moments_may_not_be_ahead_of_moment_0(self):
        self.all_refused((2, 20, [(0, 1, -9, -1)], []))
        self.assertEqual(latest(Web(2, 20, [(0, 1, -9, 0)], [])), [0, 0])

    def test_last_time_bounds_all(self):
        self.all_refused((2, 20, [(0, 1, 21, 30)], []))
        self.all_refused((2, 1, [], [(0, 1, 2, 3)]))
        self.assertEqual(earliest(Web(2, 20, [(0, 1, 20, 30)], [])), [0, 20])

    def test_rings(self):
        self.all_refused((2, 20, [(0, 1, 3, 4), (0, 1, 5, 6)], []))
        self.all_refused((4, 60, [(1, 2, 1, 5), (2, 3, 1, 5), (3, 1, 0, 5)], []))
        self.all_refused((8, 60, [(k, k + 1, 9, 60) for k in range(7)], []))
        self.all_refused((8, 60, [(k, k % 7 + 1, 0, 60) for k in range(1, 7)] + [(7, 1, 1, 60)], []))
        self.all_refused((4, 20, [(2, 3, 0, 0)], [(1, 2, 3, 5), (1, 3, 6, 7)]))

    def test_ring_far_from_where_the_pushes_begin(self):
        ties = [(0, 7, 5, 60), (7, 6, 5, 60), (6, 5, 5, 60), (3, 4, 1, 1), (4, 3, 0, 0), (1, 3, 0, 60), (2, 1, 0, 60)]
        self.all_refused((8, 60, ties, []))
        self.all_refused((8, 60, list(reversed(ties)), []))

    def test_keeps_wants_moment_0_at_nought(self):
        made = Web(2, 20, [(0, 1, 3, 5)], [])
        self.assertIs(keeps(made, [0, 4]), True)
        self.assertIs(keeps(made, [1, 5]), False)
        self.assertIs(keeps(made, [-1, 3]), False)
        self.assertIs(keeps(made, [0, 2]), False)
        self.assertIs(keeps(made, [0, 6]), False)

    def test_keeps_wants_times_in_the_room(self):
        made = Web(2, 20, [], [])
        self.assertEqual([keeps(made, [0, time]) for time in (-1, 0, 20, 21)], [False, True, True, False])

    def test_keeps_tells_of_webs_without_times(self):
        self.assertIs(keeps(Web(2, 20, [(0, 1, 21, 30)], []), [0, 21]), False)


class SpareTest(Held):
    def test_ties_that_stand_twice(self):
        self.assertEqual(spare(Web(2, 20, [(0, 1, 3, 5), (0, 1, 3, 5)], [])), [1])
        self.assertEqual(spare(Web(2, 20, [(0, 1, 3, 5), (1, 0, -5, -3), (0, 1, 3, 5)], [])), [1, 2])

    def test_wider_ones_behind_narrower_ones_and_ahead(self):
        self.assertEqual(spare(Web(2, 20, [(0, 1, 3, 5), (0, 1, 2, 6), (0, 1, 3, 6)], [])), [1, 2])
        self.assertEqual(spare(Web(2, 20, [(0, 1, 2, 6), (0, 1, 3, 5)], [])), [0])

    def test_both_bounds_are_asked_for(self):
        self.assertEqual(spare(Web(2, 20, [(0, 1, 3, 6), (0, 1, 2, 5)], [])), [])

    def test_room_and_falls_hold_bounds(self):
        self.assertEqual(spare(Web(2, 20, [(0, 1, 0, 20), (0, 1, -5, 60), (0, 1, 1, 60)], [])), [0, 1])
        self.assertEqual(spare(Web(2, 20, [(0, 1, 3, 5)], [(0, 1, 3, 5)])), [0])
        self.assertEqual(spare(Web(2, 20, [(0, 1, 4, 5)], [(0, 1, 3, 5)])), [])

    def test_what_follows_from_others_goes_from_the_last_on(self):
        ties = [(0, 1, 2, 2), (1, 2, 3, 3), (0, 2, 5, 5)]
        self.assertEqual(spare(Web(3, 20, ties, [])), [2])
        self.assertEqual(spare(Web(3, 20, ties[2:] + ties[:2], [])), [2])

    def test_no_ties(self):
        self.assertEqual(spare(Web(4, 20, [], [(0, 2, 1, 2)])), [])

    def test_no_times_of_the_whole_web(self):
        self.held_to_ring(spare, (3, 20, [], [(0, 1, 21, 30)]))
        self.held_to_ring(spare, (3, 20, [(1, 2, 5, 5), (1, 2, 4, 4)], []))

    def test_ties_are_told_of_many(self):
        ties = [(0, 1, 0, 20 - number % 7) for number in range(100)]
        self.assertEqual(spare(Web(2, 20, ties, [])), [number for number in range(100) if number != 6])


class AskedAgainTest(unittest.TestCase):
    def setUp(self):
        self.ties, self.falls = [(0, 1, 2, 3), (0, 1, 1, 4)], [(1, 2, 1, 2)]
        self.made = Web(3, 9, self.ties, self.falls)

    def answers(self):
        made = self.made
        return [tight(made), earliest(made), latest(made), spare(made)]

    def test_same_answers_when_what_was_given_back_is_changed(self):
        wanted = [[[0, 3, 5], [-2, 0, 2], [-3, -1, 0]], [0, 2, 3], [0, 3, 5], [1]]
        for turn in range(3):
            given = self.answers()
            self.assertEqual(given, wanted)
            given[0][0][1] = 99
            for answer in given:
                answer.append("more")
                answer[0] = "other"
        self.assertEqual((self.made.ties(), self.made.falls()), (self.ties, self.falls))

    def test_lists_handed_in_are_not_drawn_on_again(self):
        ahead = self.answers()
        self.ties.append((0, 2, 60, 60))
        self.falls.clear()
        self.assertEqual(self.answers(), ahead)

    def test_same_ring_when_the_one_given_is_changed(self):
        made, rings = Web(4, 20, [(1, 2, 1, 5), (2, 3, 1, 5), (3, 1, 0, 5)], []), []
        for turn in range(3):
            for asked in (tight, earliest, latest, spare):
                with self.assertRaises(NoTimes) as caught:
                    asked(made)
                rings.append(list(caught.exception.ring))
                caught.exception.ring.clear()
        self.assertEqual(rings, rings[:4] * 3)

    def test_rows_of_the_table_are_lists_of_their_own(self):
        table = tight(Web(3, 9, [], []))
        table[1][2] = "changed"
        self.assertEqual((table[0], table[2]), ([0, 9, 9], [0, 9, 0]))


if __name__ == "__main__":
    unittest.main()
