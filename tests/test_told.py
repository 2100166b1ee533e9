"""What's told of the piece, and how long it may be."""

import unittest

from helper import MOST, NO_LINE, TOO_FEW, ask, one_row, told

EVERY_LOOK = "k,p,yo,sl,cf 2,cb 4,m"


class Chart(unittest.TestCase):
    def test_from_the_front_the_other_way_round(self):
        self.assertEqual(told(one_row(9, EVERY_LOOK)).split("\n")[0], "kbbbbffvopk")

    def test_from_behind_as_worked_but_k_for_p(self):
        self.assertEqual(told(f"cast 9\nrow *(k)\nrow {EVERY_LOOK}\noff").split("\n")[0], "pkovffbbbbp")

    def test_the_last_row_above(self):
        self.assertEqual(told("cast 2\nrow k,p\nrow k,p\nrow k,sl\nrow k,sl\noff"), "pv\nvk\npk\npk\nk 4\np 2\nsl 2\n")

    def test_a_row_worked_again_from_the_other_side(self):
        self.assertEqual(told("cast 3\nrow k,p,sl\nagain 1-1\nagain 1-1\noff"), "vpk\npkv\nvpk\nk 3\np 3\nsl 3\n")


class HowOften(unittest.TestCase):
    def test_the_order(self):
        things = "kf,skk,sl,pp,sk,kk,m,yo,p,k,cb 2,cf 4"
        works = "k 1\np 1\nyo 1\nm 1\nkk 1\nsk 1\npp 1\nsl 1\nskk 1\nkf 1\nc 2\n"
        self.assertTrue(told(one_row(19, things)).endswith("k\n" + works), told(one_row(19, things)))

    def test_those_that_were_not_done_are_missing(self):
        self.assertEqual(told(one_row(2, "k2,*(p),(to 0 sl)5")), "kk\nk 2\n")

    def test_over_all_rows(self):
        self.assertEqual(told("cast 2\nrow (k)2\nrow *(k)\nrow k2\nrow to 0 k\nagain 1-4\noff").split("\n")[8:], ["k 16", ""])

    def test_cables_of_both_kinds(self):
        self.assertEqual(told("cast 6\nrow cf 2,cb 4\nrow (cf 2)3\noff"), "ffffff\nbbbbff\nc 5\n")

    def test_no_cables_no_line(self):
        self.assertNotIn("c", told(one_row(2, "k2")))


class Most(unittest.TestCase):
    def test_just_as_long_and_one_longer(self):
        pattern = one_row(3, "k3")
        self.assertEqual(ask(pattern, 8), [8] + list(b"kkk\nk 3\n"))
        self.assertEqual(ask(pattern, 9)[0], 8)
        self.assertEqual(ask(pattern, 7), [-1])
        self.assertEqual(ask(pattern, 0), [-1])

    def test_its_range(self):
        pattern = one_row(3, "k3")
        self.assertEqual(ask(pattern, MOST)[0], 8)
        self.assertEqual(ask(pattern, MOST + 1), [-2])
        self.assertEqual(ask(pattern, -1), [-2])
        self.assertEqual(ask(pattern, -2147483648), [-2])
        self.assertEqual(ask(pattern, 2147483647), [-2])

    def test_before_and_behind_what_is_wrong_in_a_line(self):
        self.assertEqual(ask("cast 1\nrow k2", -1), [-2])
        self.assertEqual(ask("", MOST + 1), [-2])
        self.assertEqual(ask("cast 1\nrow k2\noff", 0), [TOO_FEW - 2])
        self.assertEqual(ask("cast 1\nrow k", 0), [NO_LINE - 3])

    def test_a_chart_that_is_far_longer(self):
        pattern = "cast 999\nrow *(kf)\nrow *(kf)\nrow *(k)\n" + "again 3-3\n" * 1021 + "off"
        self.assertEqual(ask(pattern, 1000000), [-1])


if __name__ == "__main__":
    unittest.main()
