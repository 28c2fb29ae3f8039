import random
import unittest

from momentties.closing import kept
from momentties.errors import BadText, BadWeb
from momentties.notes import read, written
from momentties.spans import keeps
from momentties.webs import Web
from tests.reckoning import following_web, some_web

GOOD = ["moments 5 last 20", "tie 0 1 -60 60", "tie 2 1 -5 0", "fall 0 3 1 4", "fall 1 4 10 60"]

BAD_NUMBERS = ["", "-", "--1", "-0", "00", "01", "-01", "007", "0000", "1000", "-1000", "12345678901234567890", "+1",
               "1.", "1.0", "1e1", "0x1", "1_0", "a", "1a", "a1", "1-", "- 1", "1\t", "\t1", "1\r", "1\x0b", "1\x0c",
               "1\u2028", "\u0661", "\u00b2", "\uff11", "\u22121", "\u2013", "one", "None", "True"]
BAD_SPAN_ROWS = ["", " ", "tie", "fall", "tie ", "fall ", "tie 0 1", "tie 0 1 2", "fall 0 3 1", "tie 0 1 2 3 4",
                 "fall 0 3 1 2 3", "ties 0 1 2 3", "Tie 0 1 2 3", "TIE 0 1 2 3", "falls 0 3 1 2", "Fall 0 3 1 2",
                 "ti 0 1 2 3", "tie0 1 2 3", "0 1 2 3", "span 0 1 2 3", "moments 5 last 20", "last 5 moments 20",
                 "tie fall 0 1 2 3", "tie 0 1 2 3,", "tie,0,1,2,3", "tie\t0\t1\t2\t3", "tie 0 1 2  3", "tie  0 1 2 3",
                 " tie 0 1 2 3", "tie 0 1 2 3 ", "fall 0 3 1 2 ", " fall 0 3 1 2", "fall  0 3 1 2", "fall 0  3 1 2",
                 "tie 0 1 2 3\r", "tie 0 1 2 3\t", "tie 0 1 2\u00a03", "# tie 0 1 2 3", "tie 0 1 2 3 #"]
BAD_FIRST_ROWS = ["", " ", "moments", "moments 5", "moments 5 last", "moments 5 20", "5 20", "last 20 moments 5",
                  "moment 5 last 20", "Moments 5 last 20", "moments 5 lasts 20", "moments 5 Last 20",
                  "moments 5 last 20 ", " moments 5 last 20", "moments  5 last 20", "moments 5  last 20",
                  "moments 5 last  20", "moments 5 last 20 0", "moments 5 last 20 last 20", "moments\t5 last 20",
                  "moments 5 last 20\r", "tie 0 1 2 3", "fall 0 3 1 2"]


class Held(unittest.TestCase):
    def refused(self, row, rows):
        text = "\n".join(rows)
        with self.subTest(text=text):
            with self.assertRaises(BadText) as caught:
                read(text)
            self.assertIs(type(caught.exception), BadText)
            self.assertEqual(caught.exception.row, row)

    def cannot_be(self, at, why, rows):
        with self.subTest(rows=rows):
            with self.assertRaises(BadWeb) as caught:
                read("\n".join(rows))
            self.assertIs(type(caught.exception), BadWeb)
            self.assertEqual((caught.exception.at, caught.exception.why), (at, why))


class WrittenTest(unittest.TestCase):
    def test_rows(self):
        self.assertEqual(written(Web(1, 1, [], [])), "moments 1 last 1")
        self.assertEqual(written(Web(8, 60, [], [])), "moments 8 last 60")
        web = Web(5, 20, [(0, 1, -60, 60), (2, 1, -5, 0)], [(0, 3, 1, 4), (1, 4, 10, 60)])
        self.assertEqual(written(web), "\n".join(GOOD))
        self.assertEqual(written(Web(3, 7, [], [(0, 2, 1, 1)])), "moments 3 last 7\nfall 0 2 1 1")
        self.assertEqual(written(Web(3, 7, [(1, 2, -9, -8)], [])), "moments 3 last 7\ntie 1 2 -9 -8")

    def test_written_and_read(self):
        chance = random.Random(51)
        for many in range(1, 9):
            for last in (1, 9, 10, 59, 60):
                for fall_count in range(many):
                    for tie_count in (0, 1, 5):
                        for web in (some_web(chance, many, last, fall_count, tie_count, 60, 2),
                                    following_web(chance, many, last, fall_count, tie_count, 60)):
                            self.held_the_same(web)

    def held_the_same(self, web):
        made = Web(*web)
        text = written(made)
        rows = ["moments %d last %d" % web[:2]]
        rows += ["tie %d %d %d %d" % tie for tie in web[2]] + ["fall %d %d %d %d" % fall for fall in web[3]]
        self.assertEqual(text, "\n".join(rows))
        again = read(text)
        self.assertIs(type(again), Web)
        self.assertEqual((again.ties(), again.falls(), again.own()), (web[2], web[3], made.own()))
        self.assertEqual(written(again), text)
        # All that a web holds beyond its ties and falls is how many moments, and the last time.
        self.assertEqual(kept(again), kept(made))

    def test_last_time_is_read(self):
        for last in (1, 9, 60):
            again = read(written(Web(2, last, [], [])))
            self.assertEqual([keeps(again, [0, time]) for time in (last, last + 1)], [True, False])

    def test_every_number(self):
        for number in range(-60, 61):
            self.assertEqual(read(f"moments 2 last 5\ntie 0 1 {number} 60").ties(), [(0, 1, number, 60)])
            if number >= 1:
                self.assertEqual(read(f"moments 2 last 5\nfall 0 1 {number} 60").falls(), [(0, 1, number, 60)])

    def test_tie_that_stands_twice(self):
        web = Web(2, 5, [(0, 1, 1, 2), (0, 1, 1, 2), (1, 0, -2, -1)], [])
        self.assertEqual(read(written(web)).ties(), web.ties())

    def test_many_ties(self):
        ties = [(0, 1, number % 50, 60) for number in range(2000)]
        self.assertEqual(read(written(Web(2, 60, ties, []))).ties(), ties)


class BadTextTest(Held):
    def test_the_good_rows_are_good(self):
        self.assertEqual(written(read("\n".join(GOOD))), "\n".join(GOOD))

    def test_bad_rows_in_any_place(self):
        for bad in BAD_SPAN_ROWS:
            for at in range(1, len(GOOD) + 1):
                self.refused(at, GOOD[:at] + [bad] + GOOD[at:])
                self.refused(at, GOOD[:at] + [bad])

    def test_bad_numbers_in_any_place(self):
        for bad in BAD_NUMBERS:
            for at, row in enumerate(GOOD):
                words = row.split(" ")
                for place in (1, 3) if at == 0 else (1, 2, 3, 4):
                    changed = " ".join(words[:place] + [bad] + words[place + 1:])
                    self.refused(at, GOOD[:at] + [changed] + GOOD[at + 1:])

    def test_bad_first_rows(self):
        for bad in BAD_FIRST_ROWS:
            self.refused(0, [bad])
            self.refused(0, [bad] + GOOD[1:])
            self.refused(0, [bad] + GOOD)

    def test_row_left_out(self):
        self.refused(0, GOOD[1:])

    def test_blank_more(self):
        for at, row in enumerate(GOOD):
            for place in range(len(row) + 1):
                if place == len(row) or place == 0 or row[place] == " ":
                    self.refused(at, GOOD[:at] + [row[:place] + " " + row[place:]] + GOOD[at + 1:])

    def test_blank_less(self):
        for at, row in enumerate(GOOD):
            for place in range(len(row)):
                if row[place] == " ":
                    self.refused(at, GOOD[:at] + [row[:place] + row[place + 1:]] + GOOD[at + 1:])

    def test_empty_row_at_the_end(self):
        for count in range(1, len(GOOD) + 1):
            self.refused(count, GOOD[:count] + [""])
            self.refused(count, GOOD[:count] + ["", ""])

    def test_empty_text(self):
        self.refused(0, [""])
        self.refused(0, ["", ""])

    def test_other_row_ends(self):
        for end in ("\r\n", "\r", "\x0b", "\x0c", "\x85", "\u2028", " \n", "\n "):
            with self.assertRaises(BadText) as caught:
                read(end.join(GOOD))
            self.assertEqual(caught.exception.row, 1 if end == "\n " else 0)

    def test_tie_behind_a_fall(self):
        self.refused(4, GOOD[:4] + ["tie 0 1 1 2"])
        self.refused(5, GOOD + ["tie 0 1 1 2", "fall 0 2 1 2"])
        self.refused(2, ["moments 3 last 9", "fall 0 1 1 2", "tie 0 2 1 2", "fall 0 2 5 4"])

    def test_first_wrong_row_is_told(self):
        self.refused(2, GOOD[:2] + ["tie 0 1 01 2", "", "fall"])
        self.refused(0, ["moments 05 last 20", "tie"])
        self.refused(3, GOOD[:3] + ["fall 0 3 1", "tie 0 1 1 2"])


class BadWebTest(Held):
    def test_webs_that_cannot_be(self):
        self.cannot_be(0, "many", ["moments 0 last 20"])
        self.cannot_be(0, "many", ["moments 9 last 20"])
        self.cannot_be(0, "many", ["moments 999 last 0"])
        self.cannot_be(0, "many", ["moments -5 last 20"])
        self.cannot_be(0, "last", ["moments 5 last 0"])
        self.cannot_be(0, "last", ["moments 5 last 61"])
        self.cannot_be(0, "last", ["moments 5 last -999"])
        self.cannot_be(2, "moment", GOOD[:3] + ["tie 0 5 1 2"])
        self.cannot_be(0, "moment", ["moments 3 last 9", "tie -1 0 1 2"])
        self.cannot_be(0, "moment", ["moments 3 last 9", "tie 1 1 1 2"])
        self.cannot_be(2, "span", GOOD[:3] + ["tie 0 1 2 1"])
        self.cannot_be(0, "span", ["moments 3 last 9", "tie 0 1 -61 1"])
        self.cannot_be(0, "span", ["moments 3 last 9", "tie 0 1 1 999"])
        self.cannot_be(2, "fall", GOOD + ["fall 0 4 1 2"])
        self.cannot_be(0, "fall", ["moments 3 last 9", "fall 1 0 1 2"])
        self.cannot_be(0, "length", ["moments 3 last 9", "fall 0 1 0 2"])
        self.cannot_be(1, "length", GOOD[:4] + ["fall 0 4 2 1"])
        self.cannot_be(0, "length", ["moments 3 last 9", "fall 0 1 -2 61"])

    def test_rows_go_ahead_of_what_cannot_be(self):
        self.refused(1, ["moments 0 last 0", "tie 0 1 2"])
        self.refused(4, ["moments 3 last 9", "tie 0 9 1 2", "tie 0 1 2 1", "fall 0 1 5 4", "tie 0 1 1 2"])
        self.refused(2, ["moments 3 last 9", "fall 0 1 0 0", ""])


class AskedAgainTest(unittest.TestCase):
    def test_same_text_and_same_web(self):
        ties, falls = [(0, 1, -2, 3)], [(0, 2, 1, 5)]
        web = Web(3, 9, ties, falls)
        texts = [written(web) for turn in range(3)]
        ties.append((0, 1, 9, 9))
        falls.clear()
        self.assertEqual(texts + [written(web)], ["moments 3 last 9\ntie 0 1 -2 3\nfall 0 2 1 5"] * 4)
        webs = [read(texts[0]) for turn in range(3)]
        webs[0].ties().append("more")
        webs[1].falls().clear()
        self.assertEqual([(each.ties(), each.falls()) for each in webs], [([(0, 1, -2, 3)], [(0, 2, 1, 5)])] * 3)

    def test_same_refusal(self):
        for turn in range(3):
            with self.assertRaises(BadText) as caught:
                read("moments 3 last 9\n")
            self.assertEqual(caught.exception.row, 1)


if __name__ == "__main__":
    unittest.main()
