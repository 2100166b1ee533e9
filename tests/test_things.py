"""The things of a row: works, cables, brackets, `*` and `to`, and the numbers that they may have."""

import unittest

from helper import NO_LINE, TOO_FEW, TOO_MANY, TOO_MUCH, ask, one_row, told


class Works(unittest.TestCase):
    def test_what_each_takes_and_gives(self):
        for name, takes, looks in (("k", 1, "k"), ("p", 1, "p"), ("kk", 2, "k"), ("sk", 2, "k"), ("pp", 2, "p"),
                                   ("sl", 1, "v"), ("skk", 3, "k"), ("kf", 1, "kk")):
            self.assertEqual(told(one_row(takes, name)), f"{looks}\n{name} 1\n")
            self.assertEqual(told(one_row(takes * 3, f"{name}3")), f"{looks * 3}\n{name} 3\n")
            if takes > 1:
                self.assertEqual(ask(one_row(takes - 1, name)), [TOO_FEW - 2], name)
            self.assertEqual(ask(one_row(takes + 1, name)), [TOO_MANY - 2], name)

    def test_works_that_take_none(self):
        self.assertEqual(told(one_row(1, "k,yo")), "ok\nk 1\nyo 1\n")
        self.assertEqual(told(one_row(1, "sl,m")), "kv\nm 1\nsl 1\n")
        self.assertEqual(told(one_row(1, "yo3,sl,m2")), "kkvooo\nyo 3\nm 2\nsl 1\n")

    def test_in_order(self):
        self.assertEqual(told(one_row(6, "sl,p,yo,k2,pp")), "pkkopv\nk 2\np 1\nyo 1\npp 1\nsl 1\n")

    def test_how_often(self):
        self.assertEqual(told(one_row(1, "k1")), "k\nk 1\n")
        self.assertEqual(told(one_row(999, "k999")), "k" * 999 + "\nk 999\n")
        self.assertEqual(ask(one_row(1, "k0,k")), [NO_LINE - 2])
        self.assertEqual(ask(one_row(999, "k1000")), [NO_LINE - 2])
        self.assertEqual(told(one_row(1, "k,yo999"))[:3], "ooo")
        self.assertEqual(ask(one_row(1, "k,yo1000")), [NO_LINE - 2])
        self.assertEqual(ask(one_row(1, "k,yo0")), [NO_LINE - 2])

    def test_four_digits_and_five(self):
        self.assertEqual(told(one_row(2, "k0002")), "kk\nk 2\n")
        self.assertEqual(ask(one_row(2, "k00002")), [NO_LINE - 2])
        self.assertEqual(ask(one_row(2, "k9999")), [NO_LINE - 2])


class Cables(unittest.TestCase):
    def test_even_numbers(self):
        for size in (2, 4, 6, 8, 10, 12):
            self.assertEqual(told(one_row(size, f"cf {size}")), "f" * size + "\nc 1\n")
            self.assertEqual(told(one_row(size, f"cb{size}")), "b" * size + "\nc 1\n")
            self.assertEqual(ask(one_row(size - 1, f"cf{size}")), [TOO_FEW - 2])
            self.assertEqual(ask(one_row(size + 1, f"cb{size}")), [TOO_MANY - 2])

    def test_other_numbers(self):
        for size in (0, 1, 3, 5, 7, 9, 11, 13, 14, 16, 999, 1000, 9998):
            self.assertEqual(ask(one_row(20, f"cf {size},*(k)")), [NO_LINE - 2], size)
            self.assertEqual(ask(one_row(20, f"cb {size},*(k)")), [NO_LINE - 2], size)

    def test_four_digits_and_five(self):
        self.assertEqual(told(one_row(2, "cf 0002")), "ff\nc 1\n")
        self.assertEqual(ask(one_row(2, "cf 00002")), [NO_LINE - 2])


class Brackets(unittest.TestCase):
    def test_so_many_times(self):
        self.assertEqual(told(one_row(6, "(k,p)3")), "pkpkpk\nk 3\np 3\n")
        self.assertEqual(told(one_row(2, "(k,p)1")), "pk\nk 1\np 1\n")
        self.assertEqual(told(one_row(999, "(k)999")), "k" * 999 + "\nk 999\n")
        self.assertEqual(told(one_row(7, "sl,(k,(p)2)2")), "ppkppkv\nk 2\np 4\nsl 1\n")

    def test_how_often(self):
        self.assertEqual(ask(one_row(2, "(k)0,k2")), [NO_LINE - 2])
        self.assertEqual(ask(one_row(999, "(k)1000")), [NO_LINE - 2])
        self.assertEqual(ask(one_row(2, "(k2)")), [NO_LINE - 2])
        self.assertEqual(told(one_row(2, "(k)0002")), "kk\nk 2\n")
        self.assertEqual(ask(one_row(2, "(k)00002")), [NO_LINE - 2])

    def test_too_few_and_too_many(self):
        self.assertEqual(ask(one_row(6, "(k,p)4")), [TOO_FEW - 2])
        self.assertEqual(ask(one_row(7, "(k,p)4")), [TOO_FEW - 2])
        self.assertEqual(ask(one_row(9, "(k,p)4")), [TOO_MANY - 2])

    def test_eight_deep_and_nine(self):
        self.assertEqual(told(one_row(1, "(" * 8 + "k" + ")1" * 8)), "k\nk 1\n")
        self.assertEqual(ask(one_row(1, "(" * 9 + "k" + ")1" * 9)), [NO_LINE - 2])
        self.assertEqual(told(one_row(3, "*(" * 8 + "k" + ")" * 8)), "kkk\nk 3\n")
        self.assertEqual(ask(one_row(3, "*(" * 9 + "k" + ")" * 9)), [NO_LINE - 2])
        self.assertEqual(told(one_row(3, "(" * 7 + "*(k)" + ")1" * 7)), "kkk\nk 3\n")
        self.assertEqual(ask(one_row(3, "(" * 8 + "*(k)" + ")1" * 8)), [NO_LINE - 2])
        self.assertEqual(ask(one_row(3, "*(" * 8 + "(k)1" + ")" * 8)), [NO_LINE - 2])

    def test_beside_one_another_are_no_deeper(self):
        eight = "(" * 8 + "k" + ")1" * 8
        self.assertEqual(told(one_row(3, ",".join([eight] * 3))), "kkk\nk 3\n")


class Star(unittest.TestCase):
    def test_while_stitches_are_left(self):
        self.assertEqual(told(one_row(6, "*(k,pp)")), "pkpk\nk 2\npp 2\n")
        self.assertEqual(told(one_row(5, "k,*((p,sl)2)")), "vpvpk\nk 1\np 2\nsl 2\n")
        self.assertEqual(told(one_row(3, "*(k,yo)")), "okokok\nk 3\nyo 3\n")

    def test_with_none_left_they_are_not_done(self):
        self.assertEqual(told(one_row(2, "k2,*(p)")), "kk\nk 2\n")
        self.assertEqual(told(one_row(2, "k2,*(yo)")), "kk\nk 2\n")
        self.assertEqual(told(one_row(2, "*(k),*(p),yo,*(skk)")), "okk\nk 2\nyo 1\n")

    def test_too_few(self):
        self.assertEqual(ask(one_row(5, "*(k,p)")), [TOO_FEW - 2])
        self.assertEqual(ask(one_row(7, "*(k2,*(skk))")), [TOO_FEW - 2])

    def test_things_that_leave_as_many_as_before(self):
        for things in ("*(yo)", "*(m2,yo)", "*(to 3 k)", "*((yo)2)", "*(*(yo))", "*(to 2 k)", "*(to 2 k,yo)", "k,*(yo)"):
            self.assertEqual(ask(one_row(3, things)), [TOO_MUCH - 2], things)
        self.assertEqual(told(one_row(3, "*(k3,to 0 k)")), "kkk\nk 3\n")
        self.assertEqual(told(one_row(3, "*(to 0 k)")), "kkk\nk 3\n")

    def test_as_many_as_before_counts_before_the_end(self):
        self.assertEqual(ask(one_row(3, "*(yo),k9")), [TOO_MUCH - 2])
        self.assertEqual(ask(one_row(3, "*(yo,k4)")), [TOO_FEW - 2])


class To(unittest.TestCase):
    def test_more_left(self):
        self.assertEqual(told(one_row(5, "to 2 k,p2")), "ppkkk\nk 3\np 2\n")
        self.assertEqual(told(one_row(5, "to 0 p")), "ppppp\np 5\n")
        self.assertEqual(told(one_row(6, "to 2 kk,p2")), "ppkk\np 2\nkk 2\n")
        self.assertEqual(told(one_row(8, "to 2 skk,p2")), "ppkk\np 2\nskk 2\n")
        self.assertEqual(told(one_row(3, "to 1 kf,p")), "pkkkk\np 1\nkf 2\n")

    def test_just_as_many_left(self):
        self.assertEqual(told(one_row(2, "to 2 k,p2")), "pp\np 2\n")
        self.assertEqual(told(one_row(2, "p2,to 0 k")), "pp\np 2\n")
        self.assertEqual(told(one_row(2, "to 2 skk,p2")), "pp\np 2\n")

    def test_fewer_left(self):
        self.assertEqual(ask(one_row(2, "to 3 k,p2")), [TOO_FEW - 2])
        self.assertEqual(ask(one_row(2, "p2,to 1 k")), [TOO_FEW - 2])

    def test_gone_past_the_number(self):
        self.assertEqual(ask(one_row(5, "to 2 kk,p")), [TOO_FEW - 2])
        self.assertEqual(ask(one_row(5, "to 2 kk,p2")), [TOO_FEW - 2])
        self.assertEqual(ask(one_row(4, "to 2 skk,k")), [TOO_FEW - 2])
        self.assertEqual(ask(one_row(1, "to 0 kk")), [TOO_FEW - 2])
        self.assertEqual(ask(one_row(4, "to 0 skk")), [TOO_FEW - 2])

    def test_a_work_that_takes_none(self):
        for things in ("to 2 yo,k2", "to 0 m", "to 1 yo,k"):
            self.assertEqual(ask(one_row(2, things)), [NO_LINE - 2], things)

    def test_four_digits_and_five(self):
        self.assertEqual(told(one_row(2, "to 0002 k,p2")), "pp\np 2\n")
        self.assertEqual(ask(one_row(2, "to 00002 k,p2")), [NO_LINE - 2])
        self.assertEqual(ask(one_row(2, "to 9999 k,p2")), [TOO_FEW - 2])
        self.assertEqual(ask(one_row(2, "to 10000 k,p2")), [NO_LINE - 2])

    def test_within_brackets(self):
        self.assertEqual(told(one_row(5, "(to 2 k,yo)2,p2")), "ppookkk\nk 3\np 2\nyo 2\n")
        self.assertEqual(ask(one_row(5, "(to 2 k,p)2")), [TOO_FEW - 2])


if __name__ == "__main__":
    unittest.main()
