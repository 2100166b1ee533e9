"""Which lines there are, how they're written, where they may stand, and how they're counted."""

import unittest

from helper import MOST, NO_LINE, TOO_FEW, TOO_MANY, ask, chart, numbers, told


class Written(unittest.TestCase):
    def test_every_kind_of_line(self):
        self.assertEqual(told("cast 3\nrow k,p2\nagain 1-1\noff\n"), "pkk\nppk\nk 2\np 4\n")

    def test_last_newline_may_be_missing(self):
        self.assertEqual(told("cast 2\nrow k2\noff"), told("cast 2\nrow k2\noff\n"))

    def test_blanks_or_none(self):
        plain = "cast 12\nrow (k2,p)2,cf 4,yo,to 1 k,*(p)\nrow *(k)\nagain 1-2\noff\n"
        close = "cast12\nrow(k2,p)2,cf4,yo,to1k,*(p)\nrow*(k)\nagain1-2\noff\n"
        loose = ("  cast   12  \n   row  (  k  2  ,  p  )  2  ,  cf  4  ,  yo  ,  to  1  k  ,  *  (  p  )  \n"
                 " row * ( k ) \n  again  1  -  2  \n   off   ")
        self.assertEqual(told(close), told(plain))
        self.assertEqual(told(loose), told(plain))

    def test_lines_of_blanks_alone_say_nothing(self):
        self.assertEqual(told("\n  \ncast 2\n \n\nrow k2\n   \noff\n\n   \n  "), "kk\nk 2\n")

    def test_blanks_part_words_and_numbers(self):
        for line in ("row k k", "row k 1 0", "row k1 1", "ro w k2", "row s k", "row y o,kk", "row k2 p", "of f"):
            self.assertEqual(ask(f"cast 2\n{line}\noff"), [NO_LINE - 2], line)
        self.assertEqual(ask("cast 1 1\nrow *(k)\noff"), [NO_LINE - 1])
        self.assertEqual(ask("cast 2\nrow k2\nagain 1 1-1\noff"), [NO_LINE - 3])

    def test_letters_without_a_blank_are_one_word(self):
        for line in ("rowk2", "rowcf2", "rowto 0 k", "castrow k2"):
            self.assertEqual(ask(f"cast 2\n{line}\noff"), [NO_LINE - 2], line)

    def test_no_line_as_told(self):
        for line in ("knit 2", "row", "row ", "ROW k2", "row K2", "row k2.", "row k2;p", "row k,,k", "row ,k2", "row k2,",
                     "row k-2", "row 2", "row 2k", "row x2", "row k2 off", "row k2)", "row (k2", "row (k2)", "row (k)2)",
                     "row ()2", "row (k,)2", "row (,k)2", "row *()", "row *", "row *k", "row * k2", "row *(k", "row *(k)2",
                     "row *k)", "row (k)*2", "row **(k)", "row to", "row to 1", "row to k", "row to k 1", "row to 0 k2",
                     "row to 0 (k)", "row to 0 cf 2", "row to 0 x", "row to 0,k", "row to 0 to 0 k", "row cf", "row cf,k",
                     "row c2", "row cf 2 2", "row ckf2", "row\tk2", "row k2\r", "\tk2", "?", "row k2?", "row ?", "-", ",",
                     "(", "1", "row again 1-1", "row off", "row row k2"):
            self.assertEqual(ask(f"cast 2\n{line}\noff"), [NO_LINE - 2], line)

    def test_every_byte_that_no_line_holds(self):
        held = numbers("abcdefghijklmnopqrstuvwxyz0123456789()*,- \n")
        for byte in range(256):
            if byte not in held:
                self.assertEqual(chart(MOST, numbers("cast 2\nrow k2") + [byte] + numbers("\noff")), [NO_LINE - 2], byte)
                self.assertEqual(chart(MOST, [byte] + numbers("\ncast 2\nrow k2\noff")), [NO_LINE - 1], byte)


class Cast(unittest.TestCase):
    def test_how_many(self):
        self.assertEqual(told("cast 1\nrow k\noff"), "k\nk 1\n")
        self.assertEqual(told("cast 999\nrow k999\noff"), "k" * 999 + "\nk 999\n")
        self.assertEqual(ask("cast 0\nrow *(k)\noff"), [NO_LINE - 1])
        self.assertEqual(ask("cast 1000\nrow *(k)\noff"), [NO_LINE - 1])

    def test_no_number_or_no_line(self):
        for line in ("cast", "cast k", "cast -1", "cast 2,", "cast 2 off", "cast(2)", "2 cast", "casts 2", "cas 2"):
            self.assertEqual(ask(f"{line}\nrow *(k)\noff"), [NO_LINE - 1], line)

    def test_four_digits_and_five(self):
        self.assertEqual(told("cast 0002\nrow k2\noff"), "kk\nk 2\n")
        self.assertEqual(ask("cast 00002\nrow k2\noff"), [NO_LINE - 1])

    def test_missing(self):
        self.assertEqual(ask("row k\noff"), [NO_LINE - 1])
        self.assertEqual(ask("again 1-1\ncast 1\nrow k\noff"), [NO_LINE - 1])
        self.assertEqual(ask("\noff"), [NO_LINE - 2])

    def test_twice(self):
        self.assertEqual(ask("cast 2\ncast 2\nrow k2\noff"), [NO_LINE - 2])
        self.assertEqual(ask("cast 2\nrow k2\ncast 2\noff"), [NO_LINE - 3])


class Again(unittest.TestCase):
    def test_one_after_another(self):
        self.assertEqual(told("cast 1\nrow k\nrow p\nrow sl\nagain 2-3\noff"), "v\nk\nv\nk\nk\nk 1\np 2\nsl 2\n")

    def test_works_anew_on_what_is_left(self):
        self.assertEqual(told("cast 2\nrow k,*(kf)\nagain 1-1\noff"), "ppppp\nkkk\nk 2\nkf 3\n")

    def test_rows_that_an_again_worked(self):
        pattern = "cast 1\nrow k\nrow sl\nagain 1-2\nagain 4-4\nagain 3-5\noff"
        self.assertEqual(told(pattern), "v\nv\np\nv\nv\nk\nv\nk\nk 3\nsl 5\n")

    def test_rows_as_worked_before_the_line(self):
        self.assertEqual(told("cast 1\nrow k\nagain 1-1\nagain 1-2\nagain 1-4\noff").count("\n"), 8 + 1)
        self.assertEqual(ask("cast 1\nrow k\nagain 1-2\noff"), [NO_LINE - 3])

    def test_refused(self):
        for line in ("again 0-1", "again 0-0", "again 2-1", "again 1-3", "again 3-3", "again 1", "again -1", "again 1-",
                     "again 1,2", "again", "again 1-2-2", "again 1-2 off", "again 1--2", "again k-p", "again 1 2"):
            self.assertEqual(ask(f"cast 1\nrow k\nrow k\n{line}\noff"), [NO_LINE - 4], line)

    def test_both_ends(self):
        for line, rows in (("again 1-1", 3), ("again 2-2", 3), ("again 1-2", 4)):
            self.assertEqual(told(f"cast 1\nrow k\nrow k\n{line}\noff").count("\n"), rows + 1, line)

    def test_before_any_row(self):
        self.assertEqual(ask("cast 1\nagain 1-1\nrow k\noff"), [NO_LINE - 2])

    def test_four_digits_and_five(self):
        self.assertEqual(told("cast 1\nrow k\nagain 0001-0001\noff"), "p\nk\nk 2\n")
        self.assertEqual(ask("cast 1\nrow k\nagain 00001-1\noff"), [NO_LINE - 3])
        self.assertEqual(ask("cast 1\nrow k\nagain 1-00001\noff"), [NO_LINE - 3])
        self.assertEqual(ask("cast 1\nrow k\nagain 1-9999\noff"), [NO_LINE - 3])

    def test_its_own_line_is_told(self):
        self.assertEqual(ask("cast 3\nrow k3\nrow skk\nagain 1-1\noff"), [TOO_FEW - 4])
        self.assertEqual(ask("cast 1\nrow k\nrow yo,k\n\nagain 2-2\nagain 1-2\noff"), [TOO_MANY - 5])


class Off(unittest.TestCase):
    def test_missing(self):
        self.assertEqual(ask("cast 1\nrow k"), [NO_LINE - 3])
        self.assertEqual(ask("cast 1\nrow k\n"), [NO_LINE - 3])
        self.assertEqual(ask("cast 1\nrow k\n\n"), [NO_LINE - 4])
        self.assertEqual(ask("cast 1\nrow k\n "), [NO_LINE - 4])
        self.assertEqual(ask("cast 1"), [NO_LINE - 2])

    def test_empty_text(self):
        self.assertEqual(ask(""), [NO_LINE - 1])

    def test_blank_text(self):
        self.assertEqual(ask("\n"), [NO_LINE - 2])
        self.assertEqual(ask(" "), [NO_LINE - 2])
        self.assertEqual(ask("\n\n \n"), [NO_LINE - 4])

    def test_too_early(self):
        self.assertEqual(ask("off"), [NO_LINE - 1])
        self.assertEqual(ask("cast 1\noff\n"), [NO_LINE - 2])
        self.assertEqual(ask("cast 1\noff\nrow k\noff"), [NO_LINE - 2])

    def test_something_behind_it(self):
        for line in ("row k", "off", "cast 1", "again 1-1", "x"):
            self.assertEqual(ask(f"cast 1\nrow k\noff\n{line}"), [NO_LINE - 4], line)
        self.assertEqual(ask("cast 1\nrow k\noff\n\n \noff"), [NO_LINE - 6])

    def test_no_line(self):
        for line in ("off 1", "off off", "off,", "offs", "of"):
            self.assertEqual(ask(f"cast 1\nrow k\n{line}\n"), [NO_LINE - 3], line)


class Counted(unittest.TestCase):
    def test_blank_lines_are_lines(self):
        self.assertEqual(ask("\n\ncast 1\n  \nrow k2\noff"), [TOO_FEW - 5])
        self.assertEqual(ask("\n\n\nrow k"), [NO_LINE - 4])

    def test_the_first_wrong_line_counts(self):
        self.assertEqual(ask("cast 2\nrow k3\nrow x\noff"), [TOO_FEW - 2])
        self.assertEqual(ask("cast 2\nrow k\nrow k3\noff"), [TOO_MANY - 2])
        self.assertEqual(ask("cast 2\nrow x\nrow k3\noff"), [NO_LINE - 2])
        self.assertEqual(ask("cast 2\nrow k2\nrow k3\n"), [TOO_FEW - 3])


if __name__ == "__main__":
    unittest.main()
