import random
import unittest

from momentties.errors import NoTimes
from momentties.fixed import fixed
from momentties.webs import Web
from tests.reckoning import (earliest_choice, fixed_choices, in_room, is_ring, outcomes, own_moments, some_web,
                             spans_kept, with_ends, worst_bounds)


def small_webs():
    """Webs of which every choice of times, and every way in which the falls can fall out, can be walked."""
    chance = random.Random(6)
    shapes = ((1, 1, 0), (2, 1, 0), (2, 1, 1), (2, 60, 1), (3, 1, 1), (3, 20, 1), (3, 20, 2), (4, 20, 1), (4, 20, 2),
              (5, 9, 3), (5, 20, 3), (6, 9, 3), (4, 60, 3), (8, 1, 2), (8, 20, 7), (8, 60, 7), (5, 60, 3))
    for many, last, fall_count in shapes:
        longest = 4 if fall_count < 4 else 2
        for wild in (0, 0, 0, 0, 0, 0, 3, 3, 3, 5, 5, 5):
            yield some_web(chance, many, last, fall_count, chance.randint(0, 4), last // 2 + 3, wild, longest)


def large_webs():
    chance = random.Random(7)
    for many in range(4, 9):
        for last in (1, 20, 60):
            for fall_count in (1, 2, 3):
                for wild in (0, 0, 9):
                    yield some_web(chance, many, last, fall_count, many, last, wild, longest=4)


def pushed_times(web):
    """The earliest own times, by pushing each as late as another one asks; None where that doesn't end."""
    times = [0] * web[0]
    for turn in range(web[0] * web[1] + 2):
        ahead = list(times)
        for a, b, most in worst_bounds(web):
            times[a] = max(times[a], times[b] - most)
        if times == ahead:
            return times
    return None


class FixedTest(unittest.TestCase):
    def held_to_ring(self, web):
        with self.assertRaises(NoTimes) as caught:
            fixed(Web(*web))
        self.assertIs(type(caught.exception), NoTimes)
        ring = caught.exception.ring
        self.assertTrue(is_ring(ring, worst_bounds(web), 1), ring)
        self.assertLessEqual(set(ring), set(own_moments(web)))
        return ring

    def test_small_webs_by_every_choice_and_every_outcome(self):
        met, alone = {True: 0, False: 0}, 0
        for web in small_webs():
            with self.subTest(web=web):
                choices = fixed_choices(web)
                met[bool(choices)] += 1
                if choices:
                    self.assertEqual(fixed(Web(*web)), earliest_choice(choices))
                else:
                    alone += len(self.held_to_ring(web)) == 1
        self.assertGreater(met[True], 30)
        self.assertGreater(met[False], 20)
        self.assertGreater(alone, 5)

    def test_large_webs_by_every_outcome(self):
        met = {True: 0, False: 0}
        for web in large_webs():
            with self.subTest(web=web):
                pushed = pushed_times(web)
                met[pushed is not None] += 1
                if pushed is None:
                    self.held_to_ring(web)
                    continue
                times, own = fixed(Web(*web)), own_moments(web)
                self.assertEqual(times, [pushed[k] if k in own else None for k in range(web[0])])
                for lengths in outcomes(web[3]):
                    whole = with_ends(web, times, lengths)
                    self.assertTrue(in_room(web, whole) and spans_kept(web[2], whole))
        self.assertGreater(met[True], 20)
        self.assertGreater(met[False], 20)

    def test_one_moment(self):
        self.assertEqual(fixed(Web(1, 1, [], [])), [0])

    def test_no_falls_is_the_earliest_times(self):
        self.assertEqual(fixed(Web(3, 20, [(0, 1, 3, 5), (2, 1, -4, -1)], [])), [0, 3, 4])

    def test_none_for_ends_of_any_numbers(self):
        self.assertEqual(fixed(Web(4, 20, [], [(2, 1, 1, 3), (0, 3, 2, 2)])), [0, None, 0, None])

    def test_one_for_each_moment_but_the_first(self):
        falls = [(0, moment, 1, 2) for moment in range(7, 0, -1)]
        self.assertEqual(fixed(Web(8, 20, [(1, 2, -1, 1)], falls)), [0] + [None] * 7)
        self.assertEqual(self.held_to_ring((8, 20, [(1, 2, 0, 1)], falls)), [0])

    def test_a_moment_waits_for_the_latest_end(self):
        self.assertEqual(fixed(Web(3, 20, [(2, 1, 0, 60)], [(0, 2, 3, 8)])), [0, 8, None])
        self.assertEqual(fixed(Web(3, 20, [(2, 1, 0, 5)], [(0, 2, 3, 8)])), [0, 8, None])
        self.assertEqual(sorted(self.held_to_ring((3, 20, [(2, 1, 0, 4)], [(0, 2, 3, 8)]))), [0, 1])

    def test_an_end_is_within_the_last_time_at_the_latest(self):
        self.assertEqual(fixed(Web(3, 20, [(0, 1, 12, 20)], [(1, 2, 3, 8)])), [0, 12, None])
        self.held_to_ring((3, 20, [(0, 1, 13, 20)], [(1, 2, 3, 8)]))
        self.assertEqual(fixed(Web(2, 20, [], [(0, 1, 1, 20)])), [0, None])
        self.assertEqual(self.held_to_ring((2, 20, [], [(0, 1, 1, 21)])), [0])

    def test_ends_of_two_beginnings(self):
        web = (5, 20, [(3, 4, 2, 20)], [(1, 3, 1, 5), (2, 4, 2, 6)])
        self.assertEqual(fixed(Web(*web)), [0, 0, 5, None, None])
        self.assertEqual(fixed_choices(web)[0], [0, 0, 5, None, None])
        tied = (5, 20, [(3, 4, 2, 20), (1, 2, 0, 4)], [(1, 3, 1, 5), (2, 4, 2, 6)])
        self.assertEqual(sorted(self.held_to_ring(tied)), [1, 2])

    def test_ring_of_one_by_a_tie_between_the_moments_of_a_fall(self):
        self.assertEqual(self.held_to_ring((4, 20, [(2, 3, 1, 4)], [(2, 3, 1, 5)])), [2])
        self.assertEqual(self.held_to_ring((4, 20, [(2, 3, 2, 5)], [(2, 3, 1, 5)])), [2])
        self.assertEqual(self.held_to_ring((4, 20, [(3, 2, -5, -2)], [(2, 3, 1, 5)])), [2])
        self.assertEqual(fixed(Web(4, 20, [(2, 3, 1, 5)], [(2, 3, 1, 5)])), [0, 0, 0, None])

    def test_ring_of_one_by_two_falls(self):
        falls = [(1, 2, 1, 5), (1, 3, 4, 6)]
        self.assertEqual(self.held_to_ring((4, 20, [(2, 3, 0, 60)], falls)), [1])
        self.assertEqual(self.held_to_ring((4, 20, [(2, 3, -60, 4)], falls)), [1])
        self.assertEqual(fixed(Web(4, 20, [(2, 3, -1, 5)], falls)), [0, 0, None, None])

    def test_falls_by_themselves_bar_nothing(self):
        self.assertEqual(fixed(Web(3, 60, [], [(0, 1, 1, 60), (0, 2, 60, 60)])), [0, None, None])

    def test_times_that_falls_as_ties_would_have_do_not_do(self):
        self.held_to_ring((3, 20, [(1, 2, 0, 0)], [(0, 2, 3, 8)]))

    def test_asking_again(self):
        ties, falls = [(2, 1, 0, 60)], [(0, 2, 3, 8)]
        made = Web(3, 20, ties, falls)
        for turn in range(3):
            given = fixed(made)
            self.assertEqual(given, [0, 8, None])
            given[0] = "other"
            given.append("more")
        self.assertEqual((ties, falls), ([(2, 1, 0, 60)], [(0, 2, 3, 8)]))
        self.assertEqual((made.ties(), made.falls()), (ties, falls))
        ties.append((0, 1, 0, 0))
        falls.clear()
        self.assertEqual(fixed(made), [0, 8, None])

    def test_asking_again_for_a_ring(self):
        made, rings = Web(4, 20, [(2, 3, 1, 4)], [(2, 3, 1, 5)]), []
        for turn in range(3):
            with self.assertRaises(NoTimes) as caught:
                fixed(made)
            rings.append(list(caught.exception.ring))
            caught.exception.ring.append("more")
        self.assertEqual(rings, [[2]] * 3)


if __name__ == "__main__":
    unittest.main()
