import itertools
import unittest

from larderdays.shops import Shop, choice_cost, choice_counts, choices, is_choice, is_shop, rows_of
from tests.samples import parts, three_goods, two_goods


def made(**changes):
    """A shop of one good, with some fields changed."""
    fields = {"keep": [1], "patterns": [(1, (1,))], "most": 1, "week": [[(1,)]], "budget": None}
    fields.update(changes)
    return Shop(**fields)


def different_orders(many):
    return [(count,) for count in range(many)]


class FieldsTest(unittest.TestCase):
    """[3], the interface of Shop."""

    def test_fields(self):
        shop = Shop([2, 1], [(5, (1, 2)), (3, (0, 1))], 2, [[(1, 0), (0, 2)], [(1, 1)]], 7)
        self.assertEqual(shop.keep, [2, 1])
        self.assertEqual(shop.patterns, [(5, (1, 2)), (3, (0, 1))])
        self.assertEqual(shop.most, 2)
        self.assertEqual(shop.week, [[(1, 0), (0, 2)], [(1, 1)]])
        self.assertEqual(shop.budget, 7)

    def test_without_a_budget(self):
        self.assertIsNone(Shop([1], [(1, (1,))], 1, [[(1,)]]).budget)

    def test_kinds(self):
        shop = two_goods()
        self.assertIs(type(shop.keep), list)
        self.assertIs(type(shop.patterns), list)
        self.assertEqual([type(pattern) for pattern in shop.patterns], [tuple, tuple])
        self.assertEqual([type(counts) for _, counts in shop.patterns], [tuple, tuple])
        self.assertEqual([type(day) for day in shop.week], [list, list])

    def test_keeps_none_of_the_lists(self):
        keep, patterns, week = [2], [(1, (1,))], [[(1,)], [(2,)]]
        shop = Shop(keep, patterns, 1, week)
        keep.append(9)
        patterns.clear()
        week[0].append((9,))
        week.pop()
        self.assertEqual(parts(shop), ([2], [(1, (1,))], 1, [[(1,)], [(2,)]], None))

    def test_changes_none_of_the_lists(self):
        keep, patterns, week = [2], [(1, (1,))], [[(1,)], [(2,)]]
        shop = Shop(keep, patterns, 1, week)
        shop.keep.append(9)
        shop.patterns.clear()
        shop.week[0].append((9,))
        shop.week.pop()
        self.assertEqual((keep, patterns, week), ([2], [(1, (1,))], [[(1,)], [(2,)]]))


class BoundsTest(unittest.TestCase):
    """[3], just within each bound and one beyond it."""

    def check(self, good, shop):
        self.assertIs(is_shop(shop), good, parts(shop))

    def test_ordinary(self):
        for shop in [made(), two_goods(), two_goods(0), three_goods(4)]:
            self.check(True, shop)

    def test_goods(self):
        for goods in range(6):
            counts = (1,) * goods
            shop = Shop([1] * goods, [(1, counts)], 1, [[counts]])
            self.check(1 <= goods <= 4, shop)

    def test_days_kept(self):
        for days in [-1, 0, 1, 4, 5]:
            self.check(1 <= days <= 4, made(keep=[days]))
            self.check(1 <= days <= 4, Shop([2, days], [(1, (1, 1))], 1, [[(1, 1)]]))

    def test_patterns(self):
        for many in [0, 1, 8, 9]:
            self.check(1 <= many <= 8, made(patterns=[(1, (1,))] * many))

    def test_costs(self):
        for cost in [-1, 0, 1000, 1001]:
            self.check(0 <= cost <= 1000, made(patterns=[(1, (1,)), (cost, (1,))]))

    def test_counts_of_patterns(self):
        for count in [-1, 0, 9, 10]:
            self.check(0 <= count <= 9, made(patterns=[(1, (1,)), (1, (count,))]))

    def test_patterns_count_each_good(self):
        self.check(False, made(patterns=[(1, (1,)), (1, ())]))
        self.check(False, made(patterns=[(1, (1,)), (1, (1, 1))]))

    def test_sides(self):
        for most in [-1, 0, 1, 6, 7]:
            self.check(1 <= most <= 6, made(most=most))

    def test_days(self):
        for days in [0, 1, 4, 5]:
            self.check(1 <= days <= 4, made(week=[[(1,)]] * days))

    def test_orders(self):
        for many in [0, 1, 8, 9]:
            self.check(1 <= many <= 8, made(week=[[(1,)], different_orders(many)]))

    def test_orders_of_a_day_are_different(self):
        self.check(False, made(week=[[(1,)], [(1,), (2,), (1,)]]))
        self.check(True, made(week=[[(1,)], [(1,)]]))

    def test_counts_of_orders(self):
        for count in [-1, 0, 20, 21]:
            self.check(0 <= count <= 20, made(week=[[(1,)], [(2,), (count,)]]))

    def test_orders_count_each_good(self):
        self.check(False, made(week=[[(1,), ()]]))
        self.check(False, made(week=[[(1,), (1, 1)]]))

    def test_budgets(self):
        for budget in [-1, 0, 1, 10 ** 9]:
            self.check(budget >= 0, made(budget=budget))


class RowsTest(unittest.TestCase):
    def test_ordinary(self):
        self.assertEqual(rows_of(2, 2), [(0, 0), (0, 1), (0, 2), (1, 0), (1, 1), (2, 0)])

    def test_edges(self):
        self.assertEqual(rows_of(0, 3), [()])
        self.assertEqual(rows_of(3, 0), [(0, 0, 0)])
        self.assertEqual(rows_of(1, 3), [(0,), (1,), (2,), (3,)])

    def test_against_all_tuples(self):
        for length in range(5):
            for most in range(5):
                tuples = itertools.product(range(most + 1), repeat=length)
                self.assertEqual(rows_of(length, most), [row for row in tuples if sum(row) <= most])

    def test_as_many_as_a_shop_has_at_most(self):
        self.assertEqual(len(rows_of(8, 6)), 3003)


class ChoicesTest(unittest.TestCase):
    """[4]."""

    def test_without_a_budget(self):
        self.assertEqual(choices(two_goods()), [(0, 0), (0, 1), (0, 2), (1, 0), (1, 1), (2, 0)])

    def test_with_a_budget(self):
        self.assertEqual(choices(two_goods(8)), [(0, 0), (0, 1), (0, 2), (1, 0), (1, 1)])
        self.assertEqual(choices(two_goods(7)), [(0, 0), (0, 1), (0, 2), (1, 0)])
        self.assertEqual(choices(two_goods(0)), [(0, 0)])

    def test_budget_and_free_patterns(self):
        self.assertEqual(choices(three_goods(3)), [(0, 0, 0), (0, 1, 0), (0, 2, 0), (0, 3, 0)])

    def test_is_choice_agrees_with_choices(self):
        for budget in [None, 0, 3, 4, 5, 8, 10, 14, 18]:
            for shop in [two_goods(budget), three_goods(budget)]:
                tuples = itertools.product(range(-1, 5), repeat=len(shop.patterns))
                self.assertEqual([row for row in tuples if is_choice(shop, row)], choices(shop))

    def test_no_choices(self):
        for row in [(), (0,), (1, 0, 0), (-1, 1), (3, -1), (1, 2), (3, 0), (0, 3)]:
            self.assertIs(is_choice(two_goods(), row), False, row)
        self.assertIs(is_choice(two_goods(7), (1, 1)), False)
        self.assertIs(is_choice(two_goods(8), (1, 1)), True)

    def test_cost(self):
        self.assertEqual(choice_cost(two_goods(), (0, 0)), 0)
        self.assertEqual(choice_cost(two_goods(), (1, 1)), 8)
        self.assertEqual(choice_cost(three_goods(), (1, 0, 2)), 16)

    def test_counts(self):
        self.assertEqual(choice_counts(two_goods(), (0, 0)), (0, 0))
        self.assertEqual(choice_counts(two_goods(), (1, 1)), (1, 3))
        self.assertEqual(choice_counts(three_goods(), (1, 0, 2)), (5, 2, 4))
        self.assertEqual(choice_counts(three_goods(), (0, 3, 0)), (0, 3, 0))
        self.assertIs(type(choice_counts(two_goods(), (1, 1))), tuple)


class NothingChangesTest(unittest.TestCase):
    """[2], for shops."""

    def test_shops_are_not_changed(self):
        for shop in [two_goods(), two_goods(8), made(most=7)]:
            before = parts(shop)
            row = (1,) * len(shop.patterns)
            is_shop(shop), is_choice(shop, row), choices(shop), choice_cost(shop, row), choice_counts(shop, row)
            self.assertEqual(parts(shop), before)

    def test_lists_are_new(self):
        shop = two_goods()
        choices(shop).clear()
        rows_of(2, 2).clear()
        self.assertEqual(choices(shop), rows_of(2, 2))
        self.assertEqual(len(choices(shop)), 6)


if __name__ == "__main__":
    unittest.main()
