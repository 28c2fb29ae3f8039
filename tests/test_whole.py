"""What holds between the parts of the program, and over all of it."""

import random
import unittest

from momentties.closing import kept
from momentties.errors import MomentError, NoHand, NoTimes
from momentties.fixed import fixed
from momentties.hands import Hand
from momentties.notes import read, written
from momentties.papers import is_paper
from momentties.spans import earliest, keeps, latest, spare, tight
from momentties.webs import Web
from tests.reckoning import as_fallen_out, drawn_lengths, ends_due, following_web, looser_webs, outcomes, some_web


def webs():
    chance = random.Random(61)
    for turn in range(600):
        many, last = chance.randint(1, 8), chance.choice((4, 20, 60))
        fall_count = chance.randint(0, many - 1)
        if chance.randrange(3):
            yield following_web(chance, many, last, fall_count, chance.randint(0, 2), chance.choice((last // 4, last)))
        else:
            yield some_web(chance, many, last, fall_count, chance.randint(0, many), last, 9)


def ahead_of_ends(count):
    """Webs in which an own moment is to be some little ahead of an end, often by no time that does for all."""
    chance = random.Random(68)
    for turn in range(count):
        many, last, ties, falls = following_web(chance, chance.randint(3, 8), 60, 2, 0, 15)
        own = [moment for moment in range(1, many) if moment not in [fall[1] for fall in falls]]
        if own:
            least = chance.randint(-15, -2)
            ties.append((chance.choice(falls)[1], chance.choice(own), least, chance.randint(least, -1)))
        yield many, last, ties, falls


def has(asked, web):
    try:
        asked(Web(*web))
    except NoTimes:
        return False
    return True


def is_kept_by_a_hand(web):
    return kept(Web(*web))[0] == "rule"


def paper_of(made):
    answer = kept(made)
    return answer[1] if answer[0] == "paper" else []


def played(web, lengths):
    """The times that come of the program's hand where the falls are so long."""
    hand = Hand(Web(*web))
    for now in range(web[1] + 1):
        hand.goes(ends_due(web, hand.times(), lengths, now))
    return hand.times()


class ChainTest(unittest.TestCase):
    def test_fixed_then_a_hand_then_times(self):
        chance, met = random.Random(62), {}
        for web in list(webs()) + list(ahead_of_ends(100)):
            with self.subTest(web=web):
                has_fixed, has_hand = has(fixed, web), is_kept_by_a_hand(web)
                found = [has(tight, as_fallen_out(web, lengths)) for lengths in drawn_lengths(chance, web[3], 6)]
                kind = (has_fixed, has_hand, all(found))
                met[kind] = met.get(kind, 0) + 1
                self.assertTrue(has_hand or not has_fixed)
                self.assertTrue(all(found) or not has_hand)
                self.assertEqual(has(tight, web), has(earliest, web))
        for kind in ((True, True, True), (False, True, True), (False, False, True), (False, False, False)):
            self.assertGreater(met.get(kind, 0), 10, kind)

    def test_each_step_of_the_chain(self):
        # Moment 1 by itself; just where the end 2 is; ahead of the end, by no time that does for all.
        for tie, has_fixed, has_hand in (((0, 1, 3, 3), True, True), ((2, 1, 0, 0), False, True),
                                         ((2, 1, -2, -1), False, False)):
            web = (3, 9, [tie], [(0, 2, 2, 5)])
            self.assertEqual((has(fixed, web), is_kept_by_a_hand(web)), (has_fixed, has_hand))
            self.assertTrue(all(has(tight, as_fallen_out(web, lengths)) for lengths in outcomes(web[3])))

    def test_times_of_small_webs_in_every_way_of_falling_out(self):
        chance, met = random.Random(63), 0
        for turn in range(150):
            many = chance.randint(2, 5)
            web = following_web(chance, many, 9, min(many - 1, chance.randint(1, 3)), 1, 4)
            if is_kept_by_a_hand(web):
                met += 1
                for lengths in outcomes(web[3]):
                    tight(Web(*as_fallen_out(web, lengths)))
        self.assertGreater(met, 50)

    def test_what_the_hand_does_keeps_all(self):
        chance, met = random.Random(64), 0
        for web in webs():
            if not is_kept_by_a_hand(web):
                continue
            with self.subTest(web=web):
                for lengths in drawn_lengths(chance, web[3], 2):
                    met += 1
                    times = played(web, lengths)
                    self.assertTrue(keeps(Web(*web), times))
                    self.assertTrue(keeps(Web(*as_fallen_out(web, lengths)), times))
        self.assertGreater(met, 300)

    def test_without_falls_all_is_one(self):
        chance = random.Random(65)
        for turn in range(60):
            web = some_web(chance, chance.randint(1, 8), 20, 0, 6, 8, 5)
            self.assertEqual(is_kept_by_a_hand(web), has(earliest, web))
            if is_kept_by_a_hand(web):
                self.assertEqual(fixed(Web(*web)), earliest(Web(*web)))
                self.assertEqual(played(web, ()), earliest(Web(*web)))


class LooserTest(unittest.TestCase):
    def test_looser_webs(self):
        chance, met = random.Random(66), {}
        for web in webs():
            for part, asked in (("hand", is_kept_by_a_hand), ("fixed", lambda web: has(fixed, web)),
                                ("times", lambda web: has(tight, web))):
                if not asked(web):
                    continue
                for loosened, looser in looser_webs(chance, web):
                    # Kept like a tie, a fall between narrower numbers asks for more.
                    if (part, loosened) != ("times", "fall"):
                        met[part, loosened] = met.get((part, loosened), 0) + 1
                        self.assertTrue(asked(looser), (part, web, looser))
        self.assertEqual(len(met), 8)
        self.assertGreater(min(met.values()), 60)

    def test_narrower_webs_have_times_where_a_hand_keeps_the_first_one(self):
        chance = random.Random(67)
        for web in webs():
            if is_kept_by_a_hand(web):
                for loosened, looser in looser_webs(chance, web):
                    self.assertTrue(has(tight, looser), (web, looser))


class AskedAgainTest(unittest.TestCase):
    def answers(self, made, times):
        """Whatever can be asked of a web, as a text; refusals with all that they hold."""
        told = []
        for asked in (tight, earliest, latest, spare, fixed, kept, written, Web.ties, Web.falls, Web.own,
                      lambda web: keeps(web, times), lambda web: is_paper(web, paper_of(web)),
                      lambda web: read(written(web)).ties(), lambda web: Hand(web).goes([])):
            try:
                answer = asked(made)
                told.append(repr(answer))
            except MomentError as refusal:
                answer = [refusal.paper] if isinstance(refusal, NoHand) else [refusal.ring]
                told.append(repr(refusal) + repr(vars(refusal)))
            self.spoil(answer)
        return told

    def spoil(self, answer):
        for each in answer if isinstance(answer, (list, tuple)) else []:
            self.spoil(each)
        if isinstance(answer, list):
            answer.append("more")
            answer[0] = "other"

    def test_the_same_answers_in_any_order_and_after_any_change(self):
        for number, web in enumerate(webs()):
            if number % 4 == 0:
                ties, falls, times = list(web[2]), list(web[3]), [0] * web[0]
                made = Web(web[0], web[1], ties, falls)
                ahead = self.answers(made, times)
                self.assertEqual((ties, falls, times), (web[2], web[3], [0] * web[0]))
                ties.append("more")
                falls.clear()
                self.assertEqual(self.answers(made, times), ahead)
                self.assertEqual(self.answers(Web(*web), times), ahead)


if __name__ == "__main__":
    unittest.main()
