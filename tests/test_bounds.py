"""Patterns that are as long, as deep or as laborious as the document allows: each comes to an answer."""

import unittest

from helper import NO_LINE, TOO_FEW, TOO_MANY, TOO_MUCH, ask, one_row, told, within

LONGEST = 65536


def deep(inside, times, levels=8):
    return "(" * levels + inside + f"){times}" * levels


def filled(head, thing, tail):
    """The text of 65536 bytes that has as many of the thing, with commas between, as fit in."""
    room = LONGEST - len(head) - len(tail)
    things = ",".join([thing] * ((room + 1) // (len(thing) + 1)))
    return head + things + " " * (room - len(things)) + tail


class Deep(unittest.TestCase):
    def test_999_times_each(self):
        with within(20):
            self.assertEqual(ask(one_row(5, deep("k", 999))), [TOO_FEW - 2])
            self.assertEqual(ask(one_row(5, "*(k)," + deep("yo", 999))), [TOO_MUCH - 2])
            self.assertEqual(ask(one_row(5, deep("to 5 k", 999))), [TOO_MANY - 2])
            self.assertEqual(ask(one_row(5, deep("to 0 k,to 1 k", 999))), [TOO_FEW - 2])
            self.assertEqual(told(one_row(5, deep("to 0 k", 999))), "kkkkk\nk 5\n")

    def test_around_a_star_that_finds_no_stitch_left(self):
        with within(20):
            self.assertEqual(told(one_row(5, "k5," + deep("*(k)", 999, 7))), "kkkkk\nk 5\n")
            self.assertEqual(told(one_row(5, deep("*(k)", 999, 7))), "kkkkk\nk 5\n")
            self.assertEqual(told(one_row(5, "k5," + deep("*(yo),to 0 k,*(p)", 999, 7))), "kkkkk\nk 5\n")
            self.assertEqual(told(one_row(5, "k5," + deep("to 0 p,(*(k,yo))999", 999, 6))), "kkkkk\nk 5\n")
            self.assertEqual(ask(one_row(5, "k5," + deep("*(k),yo", 999, 7))), [TOO_MUCH - 2])

    def test_around_a_to_that_finds_just_as_many_left(self):
        with within(20):
            self.assertEqual(told(one_row(5, deep("to 2 k", 999) + ",p2")), "ppkkk\nk 3\np 2\n")
            self.assertEqual(ask(one_row(5, deep("to 2 k,yo", 999) + ",p2")), [TOO_MUCH - 2])

    def test_that_it_does_something_at_times_only(self):
        with within(20):
            self.assertEqual(told(one_row(5, "((yo,*(k))2,*(p))2")), "oookkkkko\nk 5\nyo 4\n")
            self.assertEqual(told(one_row(6, "(k,*(k),yo,m)1,(yo)2,(to 0 k,yo)2")), "ooookokkkkkk\nk 6\nyo 5\nm 1\n")

    def test_brackets_that_never_end(self):
        with within(20):
            self.assertEqual(ask("cast 1\nrow " + "(" * 65000), [NO_LINE - 2])
            self.assertEqual(ask("cast 1\nrow " + "*(" * 32000), [NO_LINE - 2])
            self.assertEqual(ask("cast 1\nrow k" + ")" * 65000), [NO_LINE - 2])


class Long(unittest.TestCase):
    def test_a_text_of_65536_bytes(self):
        head = "cast 1\nrow k\noff"
        with within(20):
            self.assertEqual(told(head + "\n" * (LONGEST - len(head))), "k\nk 1\n")
            self.assertEqual(told(head + " " * (LONGEST - len(head))), "k\nk 1\n")
            self.assertEqual(told("\n" * (LONGEST - len(head)) + head), "k\nk 1\n")
            self.assertEqual(ask("\n" * LONGEST), [NO_LINE - LONGEST - 1])
            self.assertEqual(ask("\n" * (LONGEST - 1) + "x"), [NO_LINE - LONGEST])

    def test_a_line_that_is_as_long(self):
        with within(20):
            for sign in "a1(,*-? ":
                line = 2 if sign == " " else 1
                self.assertEqual(ask(sign * LONGEST), [NO_LINE - line], sign)
            self.assertEqual(ask("cast" + " " * (LONGEST - 5) + "1"), [NO_LINE - 2])
            self.assertEqual(ask("cast " + "0" * (LONGEST - 6) + "1"), [NO_LINE - 1])

    def test_a_row_of_very_many_things(self):
        with within(20):
            self.assertEqual(ask(filled("cast 9\nrow ", "yo", ",k9\noff")), [TOO_MUCH - 2])
            self.assertEqual(ask(filled("cast 9\nrow ", "k", "\noff")), [TOO_FEW - 2])
            self.assertEqual(told(filled("cast 9\nrow k9,", "*(k)", "\noff")), "k" * 9 + "\nk 9\n")
            self.assertEqual(told(filled("cast 9\nrow ", "to9p", ",k9\noff")), "k" * 9 + "\nk 9\n")
            self.assertEqual(told(filled("cast 9\nrow (k9,", "(*(k))9", ",yo)1\noff")), "o" + "k" * 9 + "\nk 9\nyo 1\n")

    def test_very_many_things_in_brackets_worked_again_and_again(self):
        rows = "".join([f"again 1-{2 ** power}\n" for power in range(10)])
        with within(60):
            pattern = filled("cast 9\nrow ((*(k),yo,", "*(k)", f")1)1\n{rows}off")
            self.assertTrue(told(pattern).endswith("k\nk 532992\nyo 1024\n"))
            self.assertEqual(ask(filled("cast 9\nrow *(k),((yo,", "*(k)", f")999)4\n{rows}off")), [TOO_MUCH - 3])

    def test_long_rows_worked_again_and_again(self):
        with within(60):
            pattern = "cast 512\nrow *(kf)\nrow *(kf)\nrow " + ",".join(["k,p"] * 1024) + "\n" + "again 3-3\n" * 1021
            self.assertEqual(ask(pattern + "off", 4000), [-1])
            self.assertEqual(ask(pattern + "again 1-1\noff", 4000), [TOO_MUCH - 1026])

    def test_rows_of_ever_more_stitches(self):
        with within(60):
            pattern = "cast 512\nrow *(kf)\nrow *(kf)\nrow *(((k)1)1),yo\n" + "again 3-3\n" * 1021 + "off"
            self.assertEqual(ask(pattern, 4000), [-1])


if __name__ == "__main__":
    unittest.main()
