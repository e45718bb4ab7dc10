import itertools
import unittest

from larderdays.errors import BadChoice, Short
from larderdays.shops import choice_counts, choices
from larderdays.stocks import amounts, empty_stock, fresh, is_better, is_stock, issue, issues, overnight
from tests.samples import parts, three_goods, two_goods

# All stocks of two goods that keep 2 days and 1 day, with up to 2 pieces at each place.
SMALL = [((a, b), (c,)) for a, b, c in itertools.product(range(3), repeat=3)]
ORDERS = list(itertools.product(range(5), range(3)))


def ways(stock, order):
    """All ways of issuing, tried out place by place."""
    places = [(good, place) for good, row in enumerate(stock) for place in range(len(row))]
    found = []
    for taken in itertools.product(*[range(stock[good][place] + 1) for good, place in places]):
        totals = [0] * len(stock)
        for (good, _), count in zip(places, taken):
            totals[good] += count
        if tuple(totals) == order:
            left = [list(row) for row in stock]
            for (good, place), count in zip(places, taken):
                left[good][place] -= count
            found.append(tuple(tuple(row) for row in left))
    return sorted(found)


def better(one, other):
    """Better, straight from its words."""
    return all(
        sum(row[days:]) >= sum(other_row[days:])
        for row, other_row in zip(one, other)
        for days in range(len(row))
    )


class StockTest(unittest.TestCase):
    """[7]."""

    def test_empty_stock(self):
        self.assertEqual(empty_stock(two_goods()), ((0, 0), (0,)))
        self.assertEqual(empty_stock(three_goods()), ((0, 0, 0), (0,), (0, 0)))

    def test_stocks(self):
        shop = two_goods()
        for stock in [((0, 0), (0,)), ((3, 1), (2,)), ((0, 1000), (99,)), empty_stock(shop)]:
            self.assertIs(is_stock(shop, stock), True, stock)

    def test_no_stocks(self):
        wrong = [(), ((0, 0),), ((0, 0), (0,), (0,)), ((0,), (0,)), ((0, 0, 0), (0,)), ((0, 0), ()),
                 ((0, 0), (0, 0)), ((0,), (0, 0)), ((-1, 0), (0,)), ((0, -1), (0,)), ((1, 1), (-1,)), ((), ())]
        for stock in wrong:
            self.assertIs(is_stock(two_goods(), stock), False, stock)

    def test_amounts(self):
        self.assertEqual(amounts(((3, 1), (2,))), (4, 2))
        self.assertEqual(amounts(((0, 0, 0), (0,), (5, 7))), (0, 0, 12))
        self.assertIs(type(amounts(((1,),))), tuple)

    def test_cutting_puts_at_the_last_places(self):
        self.assertEqual(fresh(two_goods(), ((3, 0), (0,)), (1, 1)), ((3, 1), (3,)))
        self.assertEqual(fresh(two_goods(), ((3, 4), (5,)), (1, 0)), ((3, 5), (7,)))
        self.assertEqual(fresh(three_goods(), ((0, 0, 0), (0,), (0, 0)), (1, 0, 2)), ((0, 0, 5), (2,), (0, 4)))

    def test_cutting_by_nothing(self):
        self.assertEqual(fresh(two_goods(), ((3, 4), (5,)), (0, 0)), ((3, 4), (5,)))

    def test_cutting_by_each_choice(self):
        shop = two_goods(8)
        for choice in choices(shop):
            long, short = choice_counts(shop, choice)
            self.assertEqual(fresh(shop, ((1, 2), (3,)), choice), ((1, 2 + long), (3 + short,)))

    def test_cutting_by_what_is_no_choice(self):
        for choice in [(), (1,), (1, 0, 0), (-1, 1), (1, 2), (3, 0)]:
            with self.assertRaises(BadChoice):
                fresh(two_goods(), ((3, 0), (0,)), choice)

    def test_cutting_beyond_the_budget(self):
        self.assertEqual(fresh(two_goods(8), ((0, 0), (0,)), (1, 1)), ((0, 1), (3,)))
        with self.assertRaises(BadChoice):
            fresh(two_goods(7), ((0, 0), (0,)), (1, 1))


class IssueTest(unittest.TestCase):
    """[8]."""

    def test_oldest_first(self):
        self.assertEqual(issue(((2, 3), (4,)), (0, 0)), ((2, 3), (4,)))
        self.assertEqual(issue(((2, 3), (4,)), (1, 1)), ((1, 3), (3,)))
        self.assertEqual(issue(((2, 3), (4,)), (2, 2)), ((0, 3), (2,)))
        self.assertEqual(issue(((2, 3), (4,)), (3, 4)), ((0, 2), (0,)))
        self.assertEqual(issue(((2, 3), (4,)), (5, 0)), ((0, 0), (4,)))
        self.assertEqual(issue(((1, 0, 2, 3),), (4,)), ((0, 0, 0, 2),))

    def test_piece_by_piece(self):
        for stock in SMALL:
            for order in ORDERS:
                left = [list(row) for row in stock]
                for row, count in zip(left, order):
                    for _ in range(count):
                        oldest = next((place for place in range(len(row)) if row[place]), None)
                        if oldest is not None:
                            row[oldest] -= 1
                if all(sum(row) >= count for row, count in zip(stock, order)):
                    self.assertEqual(issue(stock, order), tuple(tuple(row) for row in left))

    def check_short(self, stock, order, good):
        for way in [issue, issues]:
            with self.assertRaises(Short) as caught:
                way(stock, order)
            self.assertEqual(caught.exception.good, good)

    def test_short_tells_the_first_good(self):
        self.check_short(((2, 3), (4,)), (6, 0), 0)
        self.check_short(((2, 3), (4,)), (6, 5), 0)
        self.check_short(((2, 3), (4,)), (5, 5), 1)
        self.check_short(((0, 0, 0), (0,), (0, 0)), (0, 0, 1), 2)
        self.check_short(((9, 0, 0), (1,), (0, 0)), (1, 2, 1), 1)

    def test_short_only_if_there_is_too_little(self):
        for stock in SMALL:
            for order in ORDERS:
                lacking = [good for good, row in enumerate(stock) if sum(row) < order[good]]
                if lacking:
                    self.check_short(stock, order, lacking[0])
                else:
                    issue(stock, order)
                    self.assertNotEqual(issues(stock, order), [])

    def test_all_ways(self):
        self.assertEqual(issues(((2, 3), (4,)), (2, 1)), [((0, 3), (3,)), ((1, 2), (3,)), ((2, 1), (3,))])
        self.assertEqual(issues(((1, 1), (1,)), (0, 0)), [((1, 1), (1,))])
        self.assertEqual(issues(((1, 1), (1,)), (2, 1)), [((0, 0), (0,))])

    def test_all_ways_of_several_goods(self):
        stocks = [((0, 1), (0, 1)), ((0, 1), (1, 0)), ((1, 0), (0, 1)), ((1, 0), (1, 0))]
        self.assertEqual(issues(((1, 1), (1, 1)), (1, 1)), stocks)

    def test_all_ways_against_trying_out(self):
        larger = [((2, 0, 1), (1, 3)), ((1, 2, 2), (0, 2)), ((0, 3, 1), (2, 1))]
        orders = list(itertools.product(range(4), range(3)))
        for stock, order in list(itertools.product(SMALL, ORDERS)) + list(itertools.product(larger, orders)):
            if all(sum(row) >= count for row, count in zip(stock, order)):
                self.assertEqual(issues(stock, order), ways(stock, order))

    def test_the_list_is_new(self):
        stock = ((1, 1), (1,))
        issues(stock, (1, 0)).clear()
        self.assertEqual(issues(stock, (1, 0)), [((0, 1), (1,)), ((1, 0), (1,))])


class NightTest(unittest.TestCase):
    """[9]."""

    def test_nights(self):
        self.assertEqual(overnight(((2, 3), (4,))), (((3, 0), (0,)), (2, 4)))
        self.assertEqual(overnight(((1, 2, 3, 4), (5, 6))), (((2, 3, 4, 0), (6, 0)), (1, 5)))
        self.assertEqual(overnight(((0, 0), (0,))), (((0, 0), (0,)), (0, 0)))

    def test_all_is_gone_behind_so_many_nights(self):
        stock = ((1, 2, 3), (4,), (5, 6))
        gone = []
        for _ in range(3):
            stock, spoiled = overnight(stock)
            gone.append(spoiled)
        self.assertEqual(stock, ((0, 0, 0), (0,), (0, 0)))
        self.assertEqual(gone, [(1, 4, 5), (2, 0, 6), (3, 0, 0)])


class BetterTest(unittest.TestCase):
    """[10]."""

    def test_better(self):
        for one, other in [
            (((0, 1), (0,)), ((1, 0), (0,))),
            (((1, 1), (0,)), ((1, 0), (0,))),
            (((0, 2), (1,)), ((2, 0), (0,))),
            (((0, 0, 3),), ((1, 1, 1),)),
            (((0, 2, 1),), ((1, 1, 1),)),
        ]:
            self.assertIs(is_better(one, other), True, (one, other))
            self.assertIs(is_better(other, one), False, (other, one))

    def test_equal(self):
        for stock in SMALL:
            self.assertIs(is_better(stock, stock), True)

    def test_neither(self):
        for one, other in [
            (((0, 1), (0,)), ((2, 0), (0,))),
            (((1, 0), (0,)), ((0, 0), (1,))),
            (((0, 1), (0,)), ((0, 0), (5,))),
            (((0, 3, 0),), ((2, 0, 1),)),
        ]:
            self.assertIs(is_better(one, other), False)
            self.assertIs(is_better(other, one), False)

    def test_against_its_words(self):
        for one, other in itertools.product(SMALL, SMALL):
            self.assertIs(is_better(one, other), better(one, other))

    def test_oldest_first_leaves_what_is_better_than_each_other_way(self):
        for stock in [((2, 1), (2,)), ((1, 2, 2), (1, 1)), ((0, 3, 1), (2, 1)), ((1, 1, 1, 1), (1,))]:
            for order in itertools.product(range(4), range(2)):
                oldest = issue(stock, order)
                for left in issues(stock, order):
                    self.assertTrue(is_better(oldest, left), (stock, order, left))

    def test_the_better_stock_stays_better(self):
        shop = two_goods()
        for one, other in itertools.product(SMALL, SMALL):
            if is_better(one, other):
                for order in [(0, 0), (1, 1), (2, 0), (2, 2)]:
                    if all(there >= count for there, count in zip(amounts(other), order)):
                        late = [overnight(issue(fresh(shop, stock, (1, 0)), order))[0] for stock in (one, other)]
                        self.assertTrue(is_better(late[0], late[1]), (one, other, order))


class NothingChangesTest(unittest.TestCase):
    """[2], for stocks."""

    def test_shops_and_stocks_are_not_changed(self):
        shop = two_goods(8)
        before = parts(shop)
        stock = ((2, 1), (1,))
        empty_stock(shop), is_stock(shop, stock), amounts(stock), fresh(shop, stock, (1, 0))
        issue(stock, (1, 1)), issues(stock, (1, 1)), overnight(stock), is_better(stock, stock)
        with self.assertRaises(BadChoice):
            fresh(shop, stock, (2, 0))
        with self.assertRaises(Short):
            issue(stock, (4, 0))
        with self.assertRaises(Short):
            issues(stock, (1, 2))
        self.assertEqual(parts(shop), before)
        self.assertEqual(stock, ((2, 1), (1,)))

    def test_an_order_is_not_changed(self):
        order = (3, 1)
        issue(((2, 1), (1,)), order), issues(((2, 1), (1,)), order)
        self.assertEqual(order, (3, 1))


if __name__ == "__main__":
    unittest.main()
