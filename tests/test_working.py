"""How rows are worked on one another, how many there may be, and which refusal counts where two are due."""

import unittest

from helper import NO_LINE, TOO_FEW, TOO_MANY, TOO_MUCH, ask, grown, one_row, told


class FromRowToRow(unittest.TestCase):
    def test_a_row_takes_what_the_last_one_gave(self):
        self.assertEqual(told("cast 2\nrow kf2\nrow kk,p2\nrow skk\noff"), "k\npkk\nkkkk\np 2\nkk 1\nskk 1\nkf 2\n")
        self.assertEqual(ask("cast 2\nrow kf2\nrow k3\noff"), [TOO_MANY - 3])
        self.assertEqual(ask("cast 2\nrow kf2\nrow k5\noff"), [TOO_FEW - 3])

    def test_it_never_takes_what_it_gave_itself(self):
        self.assertEqual(ask(one_row(1, "yo2,k2")), [TOO_FEW - 2])

    def test_a_row_that_has_none_has_left_some(self):
        self.assertEqual(ask(one_row(2, "to 2 k")), [TOO_MANY - 2])
        self.assertEqual(ask(one_row(2, "(to 2 k)999")), [TOO_MANY - 2])


class Stitches(unittest.TestCase):
    def test_4096(self):
        self.assertEqual(len(told(grown(4096) + "off")), 1025 + 2049 + 4097 + len("kf 3584\n"))
        self.assertEqual(told(grown(4096) + "row *(k)\noff")[:4097], "p" * 4096 + "\n")
        self.assertEqual(told(grown(4095) + "row yo,*(k)\noff")[:4097], "o" + "p" * 4095 + "\n")

    def test_one_more(self):
        for row in ("row *(k),yo", "row yo,*(k)", "row to 1 k,kf", "row kf,*(k)", "row (k)999,m,*((k)1)", "row *(k),yo999",
                    "row m,to 0 k", "row m,(k999)4,k99,k", "row m,cf 6,*(cb 10)"):
            self.assertEqual(ask(grown(4096) + row + "\noff"), [TOO_MUCH - 5], row)
        for row in ("row yo,kf,*(k)", "row to 1 k,kf,yo", "row yo2,*(k)", "row *(k),(yo)2", "row yo,*(k),m"):
            self.assertEqual(ask(grown(4095) + row + "\noff"), [TOO_MUCH - 5], row)

    def test_many_taken_few_given(self):
        self.assertEqual(told(grown(4096) + "row *(pp)\noff")[:2049], "k" * 2048 + "\n")
        self.assertEqual(told(grown(4095) + "row *(skk),(yo)999,yo999,m732\noff").split("\n")[0].count("o"), 1998)

    def test_given_by_works_that_take_none(self):
        self.assertEqual(len(told(one_row(1, "(yo)999,yo999,(m9)111,m999,(yo,m)49,yo,k")).split("\n")[0]), 4096)
        self.assertEqual(ask(one_row(1, "(yo)999,yo999,(m9)111,m999,(yo,m)49,yo2,k")), [TOO_MUCH - 2])


class Rows(unittest.TestCase):
    def test_1024(self):
        self.assertEqual(told("cast 1\n" + "row k\n" * 1024 + "off"), "p\nk\n" * 512 + "k 1024\n")

    def test_1025(self):
        self.assertEqual(ask("cast 1\n" + "row k\n" * 1025 + "off"), [TOO_MUCH - 1026])

    def test_1024_by_again(self):
        self.assertEqual(told("cast 1\nrow k\nrow p\n" + "again 1-2\n" * 511 + "off"), "k\nk\n" * 512 + "k 512\np 512\n")

    def test_1025_in_the_midst_of_an_again(self):
        pattern = "cast 1\n" + "row k\n" * 1000
        self.assertEqual(told(pattern + "again 1-24\noff")[-7:], "k 1024\n")
        self.assertEqual(ask(pattern + "again 1-25\noff"), [TOO_MUCH - 1002])
        self.assertEqual(ask(pattern + "\nagain 1-1000\noff"), [TOO_MUCH - 1003])
        self.assertEqual(ask(pattern + "again 1-24\nagain 7-7\noff"), [TOO_MUCH - 1003])

    def test_that_it_is_the_1025th_comes_last(self):
        pattern = "cast 2\n" + "row k2\n" * 1024
        self.assertEqual(ask(pattern + "row x\noff"), [NO_LINE - 1026])
        self.assertEqual(ask(pattern + "row k3\noff"), [TOO_FEW - 1026])
        self.assertEqual(ask(pattern + "row k\noff"), [TOO_MANY - 1026])
        self.assertEqual(ask(pattern + "row to 2 k\noff"), [TOO_MANY - 1026])
        self.assertEqual(ask(pattern + "row k2\nx"), [TOO_MUCH - 1026])

    def test_the_1025th_in_an_again_is_worked_first(self):
        pattern = "cast 3\nrow k3\nrow kk,k\n" + "row k2\n" * 1022
        self.assertEqual(ask(pattern + "again 1-1\noff"), [TOO_FEW - 1026])
        self.assertEqual(ask("cast 2\nrow k2\nrow yo,k2\n" + "row k3\n" * 1022 + "again 1-1\noff"), [TOO_MANY - 1026])


class WhereTwoAreDue(unittest.TestCase):
    def test_no_line_comes_before_its_working(self):
        self.assertEqual(ask(one_row(2, "k3,x")), [NO_LINE - 2])
        self.assertEqual(ask(one_row(2, "k,")), [NO_LINE - 2])
        self.assertEqual(ask(one_row(2, "*(yo),")), [NO_LINE - 2])
        self.assertEqual(ask("cast 2\nrow k2\nrow skk\nagain 1-3\noff"), [TOO_FEW - 3])

    def test_in_a_row_the_first_counts(self):
        self.assertEqual(ask(one_row(2, "k3,(yo999)5")), [TOO_FEW - 2])
        self.assertEqual(ask(one_row(2, "(yo999)5,k3")), [TOO_MUCH - 2])
        self.assertEqual(ask(one_row(2, "(yo999)5")), [TOO_MUCH - 2])
        self.assertEqual(ask(one_row(2, "*(yo),k3")), [TOO_MUCH - 2])
        self.assertEqual(ask(one_row(2, "k,*(k2),*(yo)")), [TOO_FEW - 2])
        self.assertEqual(ask(one_row(2, "to 3 k,(yo999)5")), [TOO_FEW - 2])

    def test_in_a_row_of_works_the_first_counts(self):
        full = "yo999,yo999,yo999,yo999,yo"
        self.assertEqual(ask(one_row(200, f"{full},k300")), [TOO_MUCH - 2])
        self.assertEqual(ask(one_row(98, f"{full},k300")), [TOO_FEW - 2])
        self.assertEqual(ask(one_row(99, f"{full},k100")), [TOO_FEW - 2])
        self.assertEqual(ask(one_row(100, f"{full},k100")), [TOO_MUCH - 2])
        self.assertEqual(ask(one_row(100, f"{full},(k)100")), [TOO_MUCH - 2])
        self.assertEqual(ask(one_row(99, f"{full},(k)100")), [TOO_FEW - 2])
        self.assertEqual(ask(one_row(100, f"{full},*(k,p)")), [TOO_MUCH - 2])
        self.assertEqual(ask(one_row(99, f"{full},*(k,p)")), [TOO_FEW - 2])
        self.assertEqual(ask(one_row(49, f"{full},kf50")), [TOO_FEW - 2])
        self.assertEqual(ask(one_row(50, f"{full},kf50")), [TOO_MUCH - 2])

    def test_a_work_takes_before_it_gives(self):
        full = "yo999,yo999,yo999,yo999,yo100"
        self.assertEqual(ask(one_row(1, f"{full},kk")), [TOO_FEW - 2])
        self.assertEqual(ask(one_row(2, f"{full},kk")), [TOO_MUCH - 2])
        self.assertEqual(ask(one_row(1, f"{full},cf 2")), [TOO_FEW - 2])
        self.assertEqual(ask(one_row(2, f"{full},cf 2")), [TOO_MUCH - 2])

    def test_a_work_that_goes_past_the_number_gives_first(self):
        full = "yo999,yo999,yo999,yo999,yo100"
        self.assertEqual(ask(one_row(3, f"{full},to 2 kk")), [TOO_MUCH - 2])
        self.assertEqual(ask(one_row(1, f"{full},to 0 kk")), [TOO_FEW - 2])


if __name__ == "__main__":
    unittest.main()
