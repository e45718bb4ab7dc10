import itertools
import unittest

from larderdays.days import one_day, run, total_spoiled
from larderdays.errors import BadChoice, Short
from larderdays.shops import choice_counts, choices
from larderdays.stocks import empty_stock, is_better
from tests.brute import behind, cases, has_better
from tests.samples import lean, parts, three_goods, two_goods

# All stocks of two goods that keep 2 days and 1 day, with up to 2 pieces at each place.
SMALL = [((a, b), (c,)) for a, b, c in itertools.product(range(3), repeat=3)]


class OneDayTest(unittest.TestCase):
    """[11]."""

    def test_ordinary(self):
        shop = two_goods()
        self.assertEqual(one_day(shop, ((0, 0), (0,)), (1, 0), (1, 0)), (((0, 0), (0,)), (0, 2)))
        self.assertEqual(one_day(shop, ((1, 0), (0,)), (1, 1), (1, 1)), (((1, 0), (0,)), (0, 2)))
        self.assertEqual(one_day(shop, ((2, 0), (0,)), (0, 1), (0, 0)), (((0, 0), (0,)), (2, 1)))

    def test_cut_today_issued_today(self):
        self.assertEqual(one_day(two_goods(), ((0, 0), (0,)), (2, 0), (2, 4)), (((0, 0), (0,)), (0, 0)))

    def test_oldest_first(self):
        self.assertEqual(one_day(lean(), ((1, 0),), (1,), (1,)), (((1, 0),), (0,)))
        self.assertEqual(one_day(lean(), ((1, 0),), (1,), (2,)), (((0, 0),), (0,)))

    def test_pieces_at_the_last_places_in_the_morning(self):
        self.assertEqual(one_day(lean(), ((1, 3),), (1,), (2,)), (((3, 0),), (0,)))
        self.assertEqual(one_day(lean(), ((0, 3),), (0,), (0,)), (((3, 0),), (0,)))

    def test_nothing_at_all(self):
        for shop in [two_goods(), two_goods(0), three_goods()]:
            none = (0,) * len(shop.keep)
            choice = (0,) * len(shop.patterns)
            stock = empty_stock(shop)
            self.assertEqual(one_day(shop, stock, choice, none), (stock, none))

    def test_orders_of_no_day_of_the_week(self):
        self.assertEqual(one_day(lean(), ((5, 0),), (0,), (4,)), (((0, 0),), (1,)))

    def test_a_choice_that_is_none(self):
        for choice in [(), (1,), (3, 0), (-1, 1), (1, 0, 0)]:
            with self.assertRaises(BadChoice):
                one_day(two_goods(), ((2, 0), (2,)), choice, (0, 0))

    def test_a_budget_of_0(self):
        self.assertEqual(one_day(lean(0), ((2, 0),), (0,), (2,)), (((0, 0),), (0,)))
        with self.assertRaises(BadChoice):
            one_day(lean(0), ((2, 0),), (1,), (2,))

    def test_too_little(self):
        for order, good in [((2, 0), 0), ((2, 9), 0), ((1, 3), 1)]:
            with self.assertRaises(Short) as caught:
                one_day(two_goods(), ((0, 0), (0,)), (1, 0), order)
            self.assertEqual(caught.exception.good, good)

    def test_a_bad_choice_ahead_of_too_little(self):
        with self.assertRaises(BadChoice):
            one_day(two_goods(), ((0, 0), (0,)), (9, 9), (9, 9))

    def test_against_its_words(self):
        for shop, stock, day in cases(60):
            for choice in choices(shop):
                for order in shop.week[day]:
                    found = behind(shop, (day, stock), choice, order)
                    if found is None:
                        with self.assertRaises(Short):
                            one_day(shop, stock, choice, order)
                    else:
                        self.assertEqual(one_day(shop, stock, choice, order), (found[0][1], found[1]))


class BetterTest(unittest.TestCase):
    """[10] and [11]: the better one of two stocks stays the better one."""

    def check_day(self, shop, one, other, choice, order):
        """Whether the other one can meet the order; then the one can too, and stays better."""
        try:
            late = one_day(shop, other, choice, order)[0]
        except Short:
            return False
        found = one_day(shop, one, choice, order)[0]
        self.assertTrue(is_better(found, late), (one, other, choice, order))
        self.assertTrue(has_better(found, late), (one, other, choice, order))
        return True

    def test_two_goods(self):
        shop = two_goods()
        met = 0
        for one, other in itertools.product(SMALL, SMALL):
            self.assertIs(is_better(one, other), has_better(one, other))
            if is_better(one, other):
                for choice in choices(shop):
                    for order in [(0, 0), (1, 1), (0, 2), (2, 0), (3, 3)]:
                        met += self.check_day(shop, one, other, choice, order)
        self.assertGreater(met, 1000)

    def test_a_good_that_keeps_long(self):
        shop = three_goods()
        rows = list(itertools.product(range(3), repeat=3))
        for row, other_row in itertools.product(rows, rows):
            one, other = (row, (1,), (1, 0)), (other_row, (1,), (0, 0))
            if is_better(one, other):
                for order in itertools.product(range(5), [0, 1], [0]):
                    self.check_day(shop, one, other, (0, 0, 0), order)
                    self.check_day(shop, one, other, (1, 1, 0), order)


class RunTest(unittest.TestCase):
    """[11], day by day."""

    def test_ordinary(self):
        plan = [(1,), (1,), (0,)]
        orders = [(0,), (2,), (0,)]
        self.assertEqual(run(lean(), ((1, 0),), plan, orders), [
            ((1,), (0,), ((1, 0),), (1,)),
            ((1,), (2,), ((0, 0),), (0,)),
            ((0,), (0,), ((0, 0),), (0,)),
        ])

    def test_orders_of_no_week(self):
        days = run(two_goods(), ((0, 0), (0,)), [(1, 1), (1, 0)], [(0, 3), (2, 1)])
        self.assertEqual(days, [
            ((1, 1), (0, 3), ((1, 0), (0,)), (0, 0)),
            ((1, 0), (2, 1), ((0, 0), (0,)), (0, 1)),
        ])

    def test_as_many_days_as_both_lists_have(self):
        plan = [(1,), (1,), (1,)]
        orders = [(1,), (1,), (1,)]
        for choices_given, orders_given in itertools.product(range(4), range(4)):
            days = run(lean(), ((0, 0),), plan[:choices_given], orders[:orders_given])
            self.assertEqual(len(days), min(choices_given, orders_given))

    def test_no_days(self):
        for plan, orders in [([], []), ([(1,)], []), ([], [(1,)])]:
            self.assertEqual(run(lean(), ((1, 0),), plan, orders), [])

    def test_what_no_day_has_is_not_looked_at(self):
        self.assertEqual(len(run(lean(), ((0, 0),), [(1,), (9,)], [(1,)])), 1)
        self.assertEqual(len(run(lean(), ((0, 0),), [(1,)], [(1,), (9,)])), 1)

    def test_the_first_day_with_an_error(self):
        with self.assertRaises(BadChoice):
            run(lean(), ((0, 0),), [(1,), (2,), (0,)], [(1,), (9,), (9,)])
        with self.assertRaises(Short):
            run(lean(), ((0, 0),), [(1,), (0,), (2,)], [(1,), (1,), (0,)])
        with self.assertRaises(BadChoice):
            run(lean(0), ((0, 0),), [(0,), (1,)], [(0,), (0,)])

    def test_the_good_of_which_there_is_too_little(self):
        with self.assertRaises(Short) as caught:
            run(two_goods(), ((0, 0), (0,)), [(1, 0), (0, 1)], [(1, 0), (0, 3)])
        self.assertEqual(caught.exception.good, 1)

    def test_days_follow_each_other(self):
        for shop, stock, _ in cases(40):
            plan = choices(shop)
            orders = [choice_counts(shop, choice) for choice in plan]
            days = run(shop, stock, plan, orders)
            self.assertEqual([(choice, order) for choice, order, _, _ in days], list(zip(plan, orders)))
            for choice, order, morning, spoiled in days:
                self.assertEqual(one_day(shop, stock, choice, order), (morning, spoiled))
                stock = morning


class SpoiledTest(unittest.TestCase):
    def test_the_sum(self):
        shop = two_goods()
        days = run(shop, ((1, 0), (2,)), [(1, 1), (0, 0), (0, 0)], [(0, 0), (0, 0), (0, 0)])
        self.assertEqual([spoiled for _, _, _, spoiled in days], [(1, 5), (1, 0), (0, 0)])
        self.assertEqual(total_spoiled(days), 7)

    def test_nothing_spoils(self):
        self.assertEqual(total_spoiled(run(lean(), ((0, 0),), [(1,)], [(1,)])), 0)

    def test_no_days(self):
        self.assertEqual(total_spoiled([]), 0)

    def test_what_comes_in_goes_out(self):
        shop = three_goods()
        stock = ((1, 2, 0), (3,), (0, 4))
        days = run(shop, stock, [(1, 1, 1), (0, 0, 0), (0, 0, 0)], [(1, 1, 1), (0, 0, 3), (1, 0, 0)])
        left = sum(sum(row) for row in days[-1][2])
        self.assertEqual(total_spoiled(days) + left + 7, 10 + 8)


class NothingChangesTest(unittest.TestCase):
    """[2], for days."""

    def test_nothing_is_changed(self):
        shop = two_goods()
        before = parts(shop)
        stock = ((1, 1), (1,))
        plan, orders = [(1, 0), (0, 0), (9, 9)], [(1, 1), (0, 0), (0, 0)]
        one_day(shop, stock, (1, 0), (1, 1))
        with self.assertRaises(BadChoice):
            run(shop, stock, plan, orders)
        days = run(shop, stock, plan[:2], orders)
        told = list(days)
        total_spoiled(days)
        self.assertEqual(days, told)
        self.assertEqual(parts(shop), before)
        self.assertEqual(stock, ((1, 1), (1,)))
        self.assertEqual((plan, orders), ([(1, 0), (0, 0), (9, 9)], [(1, 1), (0, 0), (0, 0)]))

    def test_the_list_is_new(self):
        days = run(lean(), ((0, 0),), [(1,)], [(1,)])
        days.clear()
        self.assertEqual(len(run(lean(), ((0, 0),), [(1,)], [(1,)])), 1)


if __name__ == "__main__":
    unittest.main()
