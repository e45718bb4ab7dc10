import unittest

from larderdays.errors import LineError
from larderdays.shops import Shop, is_shop
from larderdays.texts import format_shop, parse_shop
from tests.samples import parts, three_goods, two_goods

PLAIN = ["goods 2 1", "sides 2", "cut 5 1 2", "cut 3 0 1", "day 1,0 0,2", "day 1,1"]
PAID = ["goods 2 1", "sides 2", "budget 8", "cut 5 1 2", "cut 3 0 1", "day 1,0 0,2", "day 1,1"]

BAD_NUMBERS = ["-1", "+1", "01", "00", "1.0", "1_0", "x", "1x", "\u00b2", "\u0661", "\uff11", "12345678", "9" * 5000]

WRONG_GOODS = ["", " ", "goods", "good 2 1", "Goods 2 1", "goods2 1", "2 1", "sides 2", "goods 0", "goods 5",
               "goods 2 0", "goods 2 5", "goods 1 1 1 1 1", "goods 2,1", "goods\t2 1", "goods 2\t1", "goods 2 1\r",
               "\u00a0goods 2 1"]
WRONG_SIDES = ["", " ", "sides", "side 2", "sides 0", "sides 7", "sides 2 2", "sides 2,2", "budget 8", "cut 5 1 2",
               "goods 2 1", "sides 2\r"]
WRONG_BUDGETS = ["", "   ", "budget", "budgets 8", "budget 8 8", "budget 1000001", "budget 9999999", "day 1,1",
                 "sides 2", "budget 8,8"]
WRONG_CUTS = ["", " ", "cut", "cuts 5 1 2", "cut 5", "cut 5 1", "cut 5 1 2 3", "cut 1001 1 2", "cut 5 10 2",
              "cut 5 1 10", "cut 5 1,2", "budget 8", "sides 2", "cut 5 1 2\r"]
WRONG_DAYS = ["", " ", "day", "days 1,1", "day 1", "day 1,1,1", "day 21,1", "day 1,21", "day 1,1 1,1",
              "day 1,1 2,2 1,1", "day 1, 1", "day 1 ,1", "day ,1", "day 1,", "day 1,,1", "day ,", "day 1 1",
              "day 0,0 0,1 0,2 0,3 0,4 0,5 0,6 0,7 0,8", "budget 8", "goods 2 1", "day 1,1\r"]


def with_line(lines, number, line):
    """The text of lines, with another line at a number."""
    return "\n".join(lines[:number - 1] + [line] + lines[number:])


class FormatTest(unittest.TestCase):
    """[5]."""

    def test_without_a_budget(self):
        self.assertEqual(format_shop(two_goods()), "goods 2 1\nsides 2\ncut 5 1 2\ncut 3 0 1\nday 1,0 0,2\nday 1,1")

    def test_with_a_budget(self):
        text = "goods 3 1 2\nsides 3\nbudget 40\ncut 4 1 0 2\ncut 0 0 1 0\ncut 6 2 1 1\nday 1,1,1"
        self.assertEqual(format_shop(three_goods(40)), text)

    def test_with_the_budget_zero(self):
        self.assertEqual(format_shop(two_goods(0)).split("\n")[2], "budget 0")

    def test_one_good(self):
        shop = Shop([4], [(1000, (9,))], 6, [[(20,), (0,), (3,)]])
        self.assertEqual(format_shop(shop), "goods 4\nsides 6\ncut 1000 9\nday 20 0 3")

    def test_the_shop_is_not_changed(self):
        shop = two_goods(8)
        before = parts(shop)
        format_shop(shop)
        self.assertEqual(parts(shop), before)


class ParseTest(unittest.TestCase):
    """[6], texts that are right."""

    def test_plain(self):
        self.assertEqual(parts(parse_shop("\n".join(PLAIN))), parts(two_goods()))

    def test_with_a_budget(self):
        self.assertEqual(parts(parse_shop("\n".join(PAID))), parts(two_goods(8)))

    def test_back_and_forth(self):
        for shop in [two_goods(), two_goods(0), two_goods(1000000), three_goods(), three_goods(7)]:
            self.assertEqual(parts(parse_shop(format_shop(shop))), parts(shop))

    def test_bounds(self):
        orders = [(count, 20, 0, 0) for count in range(8)]
        shop = Shop([1, 2, 3, 4], [(1000, (9, 9, 9, 9))] * 7 + [(0, (0, 0, 0, 0))], 6, [orders] * 4, 1000000)
        self.assertTrue(is_shop(shop))
        self.assertEqual(parts(parse_shop(format_shop(shop))), parts(shop))

    def test_lowest_bounds(self):
        text = "goods 1\nsides 1\nbudget 0\ncut 0 0\nday 0"
        shop = parse_shop(text)
        self.assertTrue(is_shop(shop))
        self.assertEqual(parts(shop), ([1], [(0, (0,))], 1, [[(0,)]], 0))

    def test_more_spaces(self):
        lines = ["  goods   2 1 ", " sides  2", "budget    8   ", "  cut 5  1   2", "cut 3 0 1  ", " day 1,0    0,2  ",
                 "day   1,1 "]
        self.assertEqual(parts(parse_shop("\n".join(lines))), parts(two_goods(8)))

    def test_seven_figures(self):
        self.assertEqual(parse_shop(with_line(PAID, 3, "budget 1000000")).budget, 1000000)
        self.assertEqual(parse_shop(with_line(PAID, 3, "budget 999999")).budget, 999999)

    def test_each_read_is_a_new_shop(self):
        text = "\n".join(PAID)
        parse_shop(text).keep.append(3)
        self.assertEqual(parts(parse_shop(text)), parts(two_goods(8)))


class WrongLineTest(unittest.TestCase):
    """[6], texts that are wrong."""

    def check(self, text, line):
        with self.assertRaises(LineError) as caught:
            parse_shop(text)
        self.assertEqual(caught.exception.line, line, text)

    def check_lines(self, lines, number, wrong):
        """Each wrong line is told, also if all lines behind it are wrong."""
        for line in wrong:
            self.check(with_line(lines, number, line), number)
            self.check("\n".join(lines[:number - 1] + [line] + ["x"] * len(lines)), number)

    def test_goods(self):
        self.check_lines(PLAIN, 1, WRONG_GOODS)

    def test_sides(self):
        self.check_lines(PLAIN, 2, WRONG_SIDES)

    def test_budget(self):
        self.check_lines(PAID, 3, WRONG_BUDGETS)

    def test_first_cut(self):
        self.check_lines(PLAIN, 3, [line for line in WRONG_CUTS if line != "budget 8"] + ["day 1,1"])
        self.check_lines(PAID, 4, WRONG_CUTS + ["day 1,1"])

    def test_later_cut(self):
        self.check_lines(PLAIN, 4, WRONG_CUTS)

    def test_first_day(self):
        self.check_lines(PLAIN, 5, WRONG_DAYS)

    def test_later_day(self):
        self.check_lines(PLAIN, 6, WRONG_DAYS + ["cut 5 1 2"])
        self.check("\n".join(PLAIN + ["cut 5 1 2", "day 1,1"]), 7)

    def test_numbers(self):
        for word in BAD_NUMBERS:
            self.check_lines(PAID, 1, ["goods " + word, "goods 2 " + word])
            self.check_lines(PAID, 2, ["sides " + word])
            self.check_lines(PAID, 3, ["budget " + word])
            self.check_lines(PAID, 4, [f"cut {word} 1 2", f"cut 5 {word} 2", f"cut 5 1 {word}"])
            self.check_lines(PAID, 5, [f"cut {word} 1 2", f"cut 5 {word} 2", f"cut 5 1 {word}"])
            self.check_lines(PAID, 6, [f"day {word},1", f"day 1,{word}", f"day 1,1 1,{word}"])
            self.check_lines(PAID, 7, [f"day {word},1", f"day 1,{word}", f"day 1,1 1,{word}"])

    def test_eight_figures(self):
        self.check(with_line(PAID, 3, "budget 10000000"), 3)
        self.check(with_line(PAID, 3, "budget 00000008"), 3)
        self.check(with_line(PAID, 3, "budget 0000008"), 3)

    def test_two_budgets(self):
        self.check("\n".join(PAID[:3] + ["budget 8"] + PAID[3:]), 4)

    def test_more_patterns_than_a_shop_has(self):
        for budget in [[], ["budget 8"]]:
            head = ["goods 2 1", "sides 2"] + budget
            parse_shop("\n".join(head + ["cut 5 1 2"] * 8 + ["day 1,1"]))
            self.check("\n".join(head + ["cut 5 1 2"] * 9 + ["day 1,1"]), len(head) + 9)

    def test_more_days_than_a_week_has(self):
        parse_shop("\n".join(PLAIN[:4] + ["day 1,1"] * 4))
        self.check("\n".join(PLAIN[:4] + ["day 1,1"] * 5), 9)
        self.check("\n".join(PLAIN[:4] + ["day 1,1"] * 4 + [""]), 9)

    def test_the_earlier_of_two_wrong_lines(self):
        for first in range(1, 8):
            for second in range(first + 1, 8):
                lines = list(PAID)
                lines[first - 1] = lines[first - 1] + " x"
                lines[second - 1] = "x"
                self.check("\n".join(lines), first)

    def test_empty_lines(self):
        for number in range(1, 8):
            self.check("\n".join(PAID[:number - 1] + [""] + PAID[number - 1:]), number)

    def test_a_line_feed_at_the_end(self):
        self.check("\n".join(PAID) + "\n", 8)
        self.check("\n".join(PLAIN) + "\n", 7)
        self.check("\n".join(PLAIN) + "\n ", 7)

    def test_lines_end_too_early(self):
        self.check("", 1)
        for lines, ahead in [(PLAIN, 4), (PAID, 5)]:
            for many in range(1, ahead + 1):
                self.check("\n".join(lines[:many]), many + 1)
                self.check("\n".join(lines[:many]) + "\n", many + 1)

    def test_other_signs_end_no_line(self):
        for sign in ["\r", "\x0b", "\x0c", "\x1c", "\x85", "\u2028"]:
            self.check(sign.join(PLAIN), 1)


if __name__ == "__main__":
    unittest.main()
