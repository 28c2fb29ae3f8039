import copy
import pickle
import unittest

from momentties.errors import BadFall, BadText, BadWeb, MomentError, NoHand, NoTimes


class ErrorsTest(unittest.TestCase):
    def test_each_stands_straight_under_moment_error(self):
        self.assertTrue(issubclass(MomentError, ValueError))
        for kind in (BadWeb, NoTimes, NoHand, BadFall, BadText):
            self.assertEqual(kind.__bases__, (MomentError,))

    def test_fields(self):
        bad = BadWeb(3, "span")
        self.assertEqual((bad.at, bad.why), (3, "span"))
        self.assertEqual(NoTimes([1, 2]).ring, [1, 2])
        paper = [(("tie", 0, 0, -1), "told", ())]
        self.assertEqual(NoHand(paper).paper, paper)
        self.assertEqual(BadText(4).row, 4)
        self.assertIsInstance(BadFall(), MomentError)

    def test_lists_are_kept_as_copies(self):
        ring, paper = [1, 2], [(("tie", 0, 0, -1), "told", ())]
        no_times, no_hand = NoTimes(ring), NoHand(paper)
        ring.append(3)
        paper.append("more")
        self.assertEqual((no_times.ring, no_times.args), ([1, 2], ([1, 2],)))
        self.assertEqual(no_hand.paper, [(("tie", 0, 0, -1), "told", ())])

    def test_errors_can_be_copied(self):
        for error in (BadWeb(3, "span"), NoTimes([1, 2]), NoHand([]), BadFall("why"), BadText(4)):
            self.assertEqual(vars(copy.copy(error)), vars(error))
            self.assertEqual(vars(pickle.loads(pickle.dumps(error))), vars(error))


if __name__ == "__main__":
    unittest.main()
