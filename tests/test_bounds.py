import itertools
import unittest

from larderdays.bounds import are_prices, price_bound, simple_prices, worth
from larderdays.plans import least_plan
from larderdays.shops import Shop
from tests.plain import best_plan, known_cases
from tests.samples import lean, parts, steady, three_goods, two_goods

EMPTY = ((0, 0), (0,))
ROW = [(1, 0), (1, 1), (0, 2)]


def plain_worth(prices, day, good, days):
    """[21]."""
    return max([0] + [prices[at][good] for at in range(day, day + days) if at < len(prices)])


def are_right(shop, orders, prices):
    """[21], word by word."""
    if len(prices) != len(orders) or any(len(row) != len(shop.keep) or min(row) < 0 for row in prices):
        return False
    return all(
        sum(counts[good] * plain_worth(prices, day, good, days) for good, days in enumerate(shop.keep)) <= cost
        for day in range(len(orders))
        for cost, counts in shop.patterns
    )


def plain_bound(shop, stock, orders, prices):
    """[21], piece by piece."""
    if not are_right(shop, orders, prices):
        return None
    ordered = sum(order[good] * row[good] for order, row in zip(orders, prices) for good in range(len(order)))
    pieces = [(good, place) for good, row in enumerate(stock) for place, count in enumerate(row) for _ in range(count)]
    return ordered - sum(plain_worth(prices, 0, good, place + 1) for good, place in pieces)


def plain_prices(shop, orders):
    """[22], by trying one number after the other."""
    prices = [[0] * len(shop.keep) for _ in orders]
    for day in range(len(orders)):
        for good in range(len(shop.keep)):
            if any(counts[good] for _, counts in shop.patterns):
                while are_right(shop, orders, prices):
                    prices[day][good] += 1
                prices[day][good] -= 1
    return prices


def near(prices):
    """The prices, and such that differ from them at one place."""
    yield prices
    for day, row in enumerate(prices):
        for good, step in itertools.product(range(len(row)), [-1, 1, 2]):
            changed = row[:good] + [row[good] + step] + row[good + 1:]
            yield prices[:day] + [changed] + prices[day + 1:]


class WorthTest(unittest.TestCase):
    """[21], worths."""

    PRICES = [[3, 0], [5, -2], [4, 7]]

    def test_ordinary(self):
        self.assertEqual(worth(self.PRICES, 0, 0, 1), 3)
        self.assertEqual(worth(self.PRICES, 0, 0, 2), 5)
        self.assertEqual(worth(self.PRICES, 1, 1, 2), 7)

    def test_as_far_as_there_are_days(self):
        self.assertEqual(worth(self.PRICES, 2, 0, 4), 4)
        self.assertEqual(worth(self.PRICES, 3, 0, 2), 0)
        self.assertEqual(worth([], 0, 0, 3), 0)
        self.assertEqual(worth(self.PRICES, 1, 0, 0), 0)

    def test_at_least_0(self):
        self.assertEqual(worth(self.PRICES, 1, 1, 1), 0)
        self.assertEqual(worth([[-4], [-1]], 0, 0, 2), 0)

    def test_against_its_words(self):
        for day, good, days in itertools.product(range(4), range(2), range(5)):
            self.assertEqual(worth(self.PRICES, day, good, days), plain_worth(self.PRICES, day, good, days))


class ArePricesTest(unittest.TestCase):
    """[21], which prices are right."""

    def test_ordinary(self):
        for prices in [[[0, 0]] * 3, [[5, 0]] * 3, [[1, 2], [3, 1], [0, 0]], [[0, 1], [3, 1], [2, 2]]]:
            self.assertIs(are_prices(two_goods(), ROW, prices), are_right(two_goods(), ROW, prices))
        self.assertIs(are_prices(two_goods(), ROW, [[3, 1], [3, 1], [3, 1]]), True)

    def test_more_than_the_cost(self):
        self.assertIs(are_prices(two_goods(), ROW, [[3, 1], [4, 1], [3, 1]]), False)
        self.assertIs(are_prices(two_goods(), ROW, [[0, 0], [0, 0], [6, 0]]), False)
        self.assertIs(are_prices(two_goods(), ROW, [[0, 0], [0, 4], [0, 0]]), False)

    def test_a_later_day_counts_on_the_days_that_a_good_keeps(self):
        # The first good keeps 2 days, the second one 1 day.
        self.assertIs(are_prices(two_goods(), ROW, [[0, 1], [5, 0], [0, 0]]), False)
        self.assertIs(are_prices(two_goods(), ROW, [[0, 2], [0, 0], [5, 0]]), True)
        self.assertIs(are_prices(two_goods(), ROW, [[5, 0], [0, 1], [0, 2]]), True)

    def test_below_0(self):
        self.assertIs(are_prices(two_goods(), ROW, [[0, 0], [-1, 0], [0, 0]]), False)
        self.assertIs(are_prices(two_goods(), ROW, [[0, 0], [1, 0], [0, -1]]), False)

    def test_rows_too_many_or_too_few(self):
        for many in range(6):
            self.assertIs(are_prices(two_goods(), ROW, [[1, 1]] * many), many == 3)
        self.assertIs(are_prices(two_goods(), [], []), True)
        self.assertIs(are_prices(two_goods(), [], [[0, 0]]), False)

    def test_rows_too_long_or_too_short(self):
        for row in [[], [1], [1, 1, 0], [1, 1, 1]]:
            self.assertIs(are_prices(two_goods(), ROW, [[1, 1], row, [1, 1]]), False)

    def test_a_pattern_without_a_cost(self):
        self.assertIs(are_prices(three_goods(), [(1, 1, 1)], [[2, 0, 1]]), True)
        self.assertIs(are_prices(three_goods(), [(1, 1, 1)], [[2, 1, 1]]), False)

    def test_a_good_that_no_pattern_gives_may_have_any_price(self):
        shop = Shop([1, 2], [(3, (1, 0))], 1, [[(0, 0)]])
        self.assertIs(are_prices(shop, [(1, 1)], [[3, 10 ** 9]]), True)

    def test_against_its_words(self):
        seen = {}
        for shop, _, orders in known_cases(60, seed=31):
            for prices in near(simple_prices(shop, orders)):
                right = are_right(shop, orders, prices)
                self.assertIs(are_prices(shop, orders, prices), right)
                seen[right] = seen.get(right, 0) + 1
        self.assertGreater(min(seen[True], seen[False]), 100)


class PriceBoundTest(unittest.TestCase):
    """[21], the bound."""

    def test_ordinary(self):
        self.assertEqual(price_bound(two_goods(), EMPTY, ROW, [[3, 1], [3, 1], [3, 1]]), 9)
        self.assertEqual(price_bound(two_goods(), EMPTY, ROW, [[5, 0], [5, 0], [5, 0]]), 10)

    def test_the_stock_counts_over_the_days_that_are_left(self):
        prices = [[1, 2], [3, 1], [0, 1]]
        self.assertTrue(are_right(two_goods(), [(1, 0), (1, 1), (0, 1)], [[1, 1], [3, 1], [0, 1]]))
        self.assertIsNone(price_bound(two_goods(), EMPTY, ROW, prices))
        prices = [[1, 1], [3, 1], [0, 1]]
        self.assertEqual(price_bound(two_goods(), EMPTY, ROW, prices), 7)
        self.assertEqual(price_bound(two_goods(), ((2, 0), (0,)), ROW, prices), 5)
        self.assertEqual(price_bound(two_goods(), ((1, 0), (4,)), ROW, prices), 2)
        self.assertEqual(price_bound(two_goods(), ((0, 1), (0,)), ROW, prices), 4)
        self.assertEqual(price_bound(two_goods(), ((0, 9), (0,)), ROW, prices), -20)

    def test_no_orders(self):
        self.assertEqual(price_bound(two_goods(), ((3, 1), (2,)), [], []), 0)

    def test_orders_of_nothing(self):
        self.assertEqual(price_bound(two_goods(), EMPTY, [(0, 0)], [[3, 1]]), 0)

    def test_prices_that_are_not_right(self):
        for prices in [[], [[0, 0]] * 2, [[0, 0]] * 4, [[0, 0], [0, 0], [-1, 0]], [[6, 0], [0, 0], [0, 0]], [[0]] * 3]:
            self.assertIsNone(price_bound(two_goods(), EMPTY, ROW, prices))

    def test_no_plan_costs_less(self):
        tight = 0
        for shop, stock, orders in known_cases(200, seed=32):
            plan = best_plan(shop, stock, orders, 1)
            for prices in near(simple_prices(shop, orders)):
                bound = price_bound(shop, stock, orders, prices)
                self.assertEqual(bound, plain_bound(shop, stock, orders, prices))
                if plan is not None and bound is not None:
                    self.assertLessEqual(bound, plan[0])
                    tight += 0 < bound == plan[0]
        self.assertGreater(tight, 5)

    def test_where_there_is_no_plan(self):
        self.assertIsNone(least_plan(lean(), ((0, 0),), [(5,)]))
        self.assertEqual(price_bound(lean(), ((0, 0),), [(5,)], [[1]]), 5)


class SimplePricesTest(unittest.TestCase):
    """[22]."""

    def test_ordinary(self):
        self.assertEqual(simple_prices(two_goods(), ROW), [[5, 0], [5, 0], [5, 0]])
        self.assertEqual(simple_prices(steady(), [(2,), (1,)]), [[1], [1]])

    def test_good_by_good(self):
        shop = Shop([1, 1], [(7, (2, 1)), (2, (0, 2))], 1, [[(0, 0)]])
        self.assertEqual(simple_prices(shop, [(1, 1)]), [[3, 1]])
        shop = Shop([1, 1], [(7, (1, 2)), (2, (2, 0))], 1, [[(0, 0)]])
        self.assertEqual(simple_prices(shop, [(1, 1)]), [[1, 3]])

    def test_day_by_day(self):
        shop = Shop([2, 1], [(4, (1, 1))], 1, [[(0, 0)]])
        self.assertEqual(simple_prices(shop, [(1, 1), (1, 1)]), [[4, 0], [4, 0]])
        shop = Shop([1, 2], [(4, (1, 1)), (6, (2, 0)), (1, (0, 1))], 1, [[(0, 0)]])
        self.assertEqual(simple_prices(shop, [(1, 1), (1, 1)]), [[3, 1], [3, 1]])

    def test_a_good_that_no_pattern_gives(self):
        shop = Shop([1, 2], [(3, (1, 0))], 1, [[(0, 0)]])
        self.assertEqual(simple_prices(shop, [(1, 1), (0, 1)]), [[3, 0], [3, 0]])

    def test_patterns_that_give_nothing(self):
        self.assertEqual(simple_prices(Shop([1], [(3, (0,))], 1, [[(0,)]]), [(1,)]), [[0]])

    def test_patterns_without_a_cost(self):
        self.assertEqual(simple_prices(three_goods(), [(1, 1, 1)]), [[3, 0, 0]])

    def test_no_orders(self):
        self.assertEqual(simple_prices(two_goods(), []), [])

    def test_orders_of_nothing_make_no_difference(self):
        self.assertEqual(simple_prices(two_goods(), [(0, 0)] * 3), simple_prices(two_goods(), ROW))

    def test_against_its_words(self):
        for shop, _, orders in known_cases(150, seed=33, most=5, plans=10 ** 9):
            prices = simple_prices(shop, orders)
            self.assertEqual(prices, plain_prices(shop, orders))
            self.assertIs(are_prices(shop, orders, prices), True)


class NothingChangesTest(unittest.TestCase):
    """[2], for prices."""

    def test_nothing_is_changed(self):
        shop = two_goods(5)
        orders, prices, stock = list(ROW), [[3, 1], [3, 1], [3, 1]], ((1, 2), (1,))
        worth(prices, 0, 1, 2), are_prices(shop, orders, prices), price_bound(shop, stock, orders, prices)
        simple_prices(shop, orders)
        self.assertEqual((orders, prices, stock), (ROW, [[3, 1], [3, 1], [3, 1]], ((1, 2), (1,))))
        self.assertEqual(parts(shop), parts(two_goods(5)))

    def test_lists_are_new(self):
        prices = simple_prices(two_goods(), ROW)
        prices[0][0] = 99
        prices.pop()
        self.assertEqual(simple_prices(two_goods(), ROW), [[5, 0], [5, 0], [5, 0]])


if __name__ == "__main__":
    unittest.main()
