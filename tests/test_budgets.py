import unittest

from larderdays.budgets import least_budget, within
from larderdays.games import days_to_beat
from larderdays.shops import Shop, choices
from tests.brute import Judge, all_choices, all_reached, cases, cost_of
from tests.samples import lean, parts, steady, two_goods

EMPTY = ((0, 0), (0,))


def is_safe(shop, stock, day):
    judge = Judge(shop, len(all_reached(shop, (day, stock))))
    return judge.rank((day, stock)) is None


class WithinTest(unittest.TestCase):
    def test_in_place_of_its_own(self):
        for own in [None, 0, 5]:
            for budget in [0, 1, 5, 1000]:
                self.assertEqual(parts(within(two_goods(own), budget)), parts(two_goods(budget)))

    def test_without_a_budget(self):
        for own in [None, 0, 5]:
            self.assertEqual(parts(within(two_goods(own), None)), parts(two_goods()))
            self.assertIsNone(within(two_goods(own), None).budget)

    def test_the_shop_is_a_new_one(self):
        shop = two_goods(5)
        other = within(shop, 7)
        other.keep.clear(), other.patterns.clear(), other.week[0].clear(), other.week.clear()
        self.assertEqual(parts(shop), parts(two_goods(5)))


class LeastBudgetTest(unittest.TestCase):
    """[18]."""

    def test_ordinary(self):
        self.assertEqual(least_budget(two_goods(), EMPTY, 0), 5)
        self.assertEqual(least_budget(steady(), ((0,),), 0), 3)

    def test_the_least_of_the_costs_and_no_other_number(self):
        shop = Shop([1], [(7, (1,)), (13, (2,))], 3, [[(3,)]])
        self.assertEqual(least_budget(shop, ((0,),), 0), 20)
        for budget, rank in [(0, 1), (19, 1), (20, None), (21, None), (10 ** 9, None)]:
            self.assertEqual(days_to_beat(within(shop, budget), ((0,),), 0), rank)

    def test_the_stock_counts(self):
        shop = Shop([2], [(3, (2,))], 2, [[(1,)], [(3,)]])
        self.assertEqual(least_budget(shop, ((0, 0),), 0), 3)
        self.assertEqual(least_budget(shop, ((0, 0),), 1), 6)
        self.assertEqual(least_budget(shop, ((1, 0),), 1), 3)
        self.assertEqual(least_budget(shop, ((0, 1),), 1), 3)

    def test_a_budget_of_its_own(self):
        self.assertEqual(least_budget(two_goods(5), EMPTY, 0), 5)
        self.assertEqual(least_budget(two_goods(9), EMPTY, 0), 5)
        self.assertIsNone(least_budget(two_goods(4), EMPTY, 0))

    def test_a_budget_of_0(self):
        self.assertEqual(least_budget(Shop([1], [(0, (1,)), (4, (9,))], 2, [[(2,)]], 0), ((0,),), 0), 0)
        self.assertEqual(least_budget(Shop([1], [(0, (1,)), (4, (9,))], 2, [[(2,)]]), ((0,),), 0), 0)
        self.assertIsNone(least_budget(lean(0), ((0, 0),), 0))

    def test_orders_of_nothing(self):
        self.assertEqual(least_budget(Shop([1], [(4, (1,))], 2, [[(0,)]]), ((0,),), 0), 0)

    def test_a_state_that_is_not_safe(self):
        self.assertIsNone(least_budget(lean(), ((0, 0),), 0))
        self.assertIsNone(least_budget(lean(), ((2, 0),), 0))
        self.assertIsNone(least_budget(steady(2), ((0,),), 0))

    def test_against_its_words(self):
        seen = {}
        for shop, stock, day in cases(50, seed=21, most=30) + cases(30, seed=22, least=1, most=3):
            budgets = [cost_of(shop, choice) for choice in all_choices(shop)]
            enough = [budget for budget in budgets if is_safe(within(shop, budget), stock, day)]
            least = min(enough, default=None)
            self.assertEqual(least_budget(shop, stock, day), least)
            self.assertIs(least is None, not is_safe(shop, stock, day))
            seen[least] = True
        self.assertGreater(len(seen), 4, seen)


class NothingChangesTest(unittest.TestCase):
    """[2], for budgets."""

    def test_a_shop_is_not_changed(self):
        for budget in [None, 0, 5, 9]:
            shop = two_goods(budget)
            within(shop, 3), least_budget(shop, EMPTY, 0)
            self.assertEqual(parts(shop), parts(two_goods(budget)))
            self.assertEqual(choices(shop), choices(two_goods(budget)))


if __name__ == "__main__":
    unittest.main()
