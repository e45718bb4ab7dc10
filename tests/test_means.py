import unittest
from fractions import Fraction

from larderdays.days import run
from larderdays.means import least_mean, mean_paper, ring, verify_mean
from larderdays.plans import least_plan
from larderdays.shops import Shop, choice_cost
from larderdays.stocks import empty_stock, is_better
from tests.plain import mean_by_walks, row_graph, shows_mean, small_rows
from tests.samples import lean, parts, steady, two_goods

EMPTY = ((0, 0), (0,))
NONE = ((0, 0),)
SOME = small_rows(80, seed=51)

# For lean and the orders of nothing and of two: two states are gone round for 2 in 2 days.
LEAN = [((0, NONE), -1), ((1, NONE), 0), ((1, ((1, 0),)), -1)]


def rests():
    """A shop in which what is left of a day's cutting can be of use on the next day."""
    return Shop([2], [(3, (2,)), (2, (1,))], 2, [[(0,)]])


class LeastMeanTest(unittest.TestCase):
    """[23]."""

    def test_ordinary(self):
        self.assertEqual(least_mean(steady(), ((0,),), [(1,), (4,)]), (4, 1))
        self.assertEqual(least_mean(steady(), ((0,),), [(1,), (2,)]), (5, 2))
        self.assertEqual(least_mean(two_goods(), EMPTY, [(1, 0), (1, 1), (0, 2)]), (10, 3))

    def test_one_order_that_comes_again(self):
        self.assertEqual(least_mean(rests(), NONE, [(1,)]), (3, 2))
        self.assertEqual(least_mean(rests(), NONE, [(3,)]), (9, 2))
        self.assertEqual(least_mean(steady(), ((0,),), [(2,)]), (3, 1))

    def test_orders_of_nothing(self):
        self.assertEqual(least_mean(two_goods(), EMPTY, [(0, 0)]), (0, 1))
        self.assertEqual(least_mean(two_goods(), ((4, 4), (4,)), [(0, 0), (0, 0)]), (0, 1))
        self.assertEqual(least_mean(lean(0), ((3, 3),), [(0,)]), (0, 1))

    def test_orders_that_cannot_be_met_for_ever(self):
        self.assertIsNone(least_mean(lean(), NONE, [(2,)]))
        self.assertIsNone(least_mean(lean(), ((9, 0),), [(2,)]))
        self.assertIsNone(least_mean(lean(), ((9, 9),), [(1,), (2,)]))
        self.assertIsNone(least_mean(two_goods(4), EMPTY, [(0, 1), (1, 0)]))
        self.assertIsNone(least_mean(two_goods(0), ((1, 1), (1,)), [(0, 1)]))

    def test_the_stock_decides_whether_they_can_be_met(self):
        self.assertIsNone(least_mean(lean(), NONE, [(2,), (0,)]))
        self.assertEqual(least_mean(lean(), ((1, 0),), [(2,), (0,)]), (1, 1))
        self.assertEqual(least_mean(lean(), ((0, 1),), [(2,), (0,)]), (1, 1))

    def test_what_is_ahead_of_the_ring_makes_no_difference(self):
        for stock in [NONE, ((1, 0),), ((9, 9),)]:
            self.assertEqual(least_mean(rests(), stock, [(1,)]), (3, 2))

    def test_goods_that_keep_longer_than_the_row(self):
        shop = Shop([1, 4], [(4, (0, 4)), (2, (0, 1))], 1, [[(0, 0)]])
        self.assertEqual(least_mean(shop, ((0,), (0, 0, 0, 0)), [(0, 1)]), (1, 1))
        self.assertEqual(least_mean(shop, ((0,), (0, 0, 0, 0)), [(0, 1), (0, 1), (0, 1)]), (1, 1))
        self.assertEqual(least_mean(shop, ((0,), (0, 0, 0, 0)), [(0, 2), (0, 0), (0, 0)]), (2, 3))

    def test_goods_that_no_pattern_gives(self):
        shop = Shop([1, 2], [(3, (1, 0))], 2, [[(0, 0)]])
        self.assertEqual(least_mean(shop, ((0,), (0, 0)), [(2, 0)]), (6, 1))
        self.assertIsNone(least_mean(shop, ((0,), (9, 9)), [(1, 1)]))

    def test_a_budget(self):
        self.assertEqual(least_mean(steady(3), ((0,),), [(2,), (1,)]), (5, 2))
        self.assertIsNone(least_mean(steady(2), ((0,),), [(2,), (1,)]))

    def test_against_walks(self):
        seen = {}
        for shop, stock, orders in SOME:
            mean = mean_by_walks(shop, stock, orders)
            found = least_mean(shop, stock, orders)
            self.assertEqual(found, None if mean is None else (mean.numerator, mean.denominator))
            seen[found] = True
        self.assertIn(None, seen)
        self.assertIn((0, 1), seen)
        self.assertTrue(any(found is not None and found[1] > 1 for found in seen))

    def test_no_many_days_cost_less_than_the_mean_by_more_and_more(self):
        for shop, stock, orders in SOME[:30]:
            found = least_mean(shop, stock, orders)
            many = orders * 40
            plan = least_plan(shop, stock, many)
            self.assertIs(found is None, plan is None)
            if found is not None:
                # What the days cost less, or more, than the mean is at most what a few days cost.
                most = 10 * shop.most * max(cost for cost, _ in shop.patterns)
                self.assertLessEqual(abs(plan[0] - len(many) * Fraction(*found)), most)


class RingTest(unittest.TestCase):
    """[23], the told ring."""

    def check(self, shop, stock, orders):
        found = ring(shop, stock, orders)
        mean = least_mean(shop, stock, orders)
        self.assertIs(found is None, mean is None)
        if found is not None:
            ahead, around = found
            self.assertGreater(len(around), 0)
            self.assertEqual(len(around) % len(orders), 0)
            days = run(shop, stock, ahead + around, orders * (len(ahead) + len(around)))
            stocks = [stock] + [morning for _, _, morning, _ in days]
            self.assertEqual(stocks[-1], stocks[len(ahead)])
            cost = sum(choice_cost(shop, choice) for choice in around)
            self.assertEqual(Fraction(cost, len(around)), Fraction(*mean))
            again = run(shop, stock, ahead + around * 3, orders * (len(ahead) + 3 * len(around)))
            self.assertEqual(again[-1][2], stocks[-1])
        return found

    def test_ordinary(self):
        self.assertEqual(self.check(lean(), NONE, [(0,), (2,)]), ([], [(1,), (1,)]))
        self.assertEqual(self.check(steady(), ((0,),), [(2,)]), ([], [(0, 1)]))
        self.check(two_goods(), EMPTY, [(1, 0), (1, 1), (0, 2)])
        self.check(rests(), NONE, [(1,)])

    def test_orders_that_cannot_be_met_for_ever(self):
        self.assertIsNone(ring(lean(), NONE, [(2,)]))
        self.assertIsNone(ring(lean(), ((9, 9),), [(2,), (1,)]))
        self.assertIsNone(ring(two_goods(0), ((1, 1), (1,)), [(0, 1)]))

    def test_orders_of_nothing(self):
        self.assertEqual(self.check(lean(0), NONE, [(0,)]), ([], [(0,)]))
        self.check(lean(0), ((3, 3),), [(0,)])
        self.check(two_goods(), ((3, 3), (3,)), [(0, 0), (0, 0), (0, 0)])

    def test_pieces_that_stay_for_ever(self):
        # A piece more in the first morning makes each day's piece one of the day ahead, for ever.
        shop = Shop([2], [(1, (1,))], 1, [[(1,)]])
        self.check(shop, ((1, 0),), [(1,)])
        self.check(shop, ((0, 1),), [(1,)])
        self.check(shop, ((5, 5),), [(1,), (1,), (0,)])
        long = Shop([4, 3], [(2, (1, 1)), (3, (2, 0)), (3, (0, 2))], 2, [[(0, 0)]])
        for stock in [empty_stock(long), ((3, 0, 2, 0), (0, 2, 0)), ((1, 1, 1, 1), (4, 4, 4))]:
            for orders in [[(1, 1)], [(2, 1), (0, 1)], [(3, 0), (0, 0), (0, 3)]]:
                self.check(long, stock, orders)

    def test_against_its_words(self):
        met = 0
        for shop, stock, orders in SOME:
            met += self.check(shop, stock, orders) is not None
        self.assertGreater(met, 20)


class MeanPaperTest(unittest.TestCase):
    """[24], the paper."""

    def check(self, shop, stock, orders):
        paper = mean_paper(shop, stock, orders)
        mean = least_mean(shop, stock, orders)
        self.assertIs(paper is None, mean is None)
        if paper is not None:
            self.assertEqual(paper, sorted(paper))
            self.assertEqual(len({state for state, _ in paper}), len(paper))
            greater = (7 * mean[0] + 1, 7 * mean[1])
            less = (mean[0] - 1, mean[1])
            for fraction, shown in [(mean, True), (greater, False)]:
                self.assertIs(verify_mean(shop, stock, orders, fraction, paper), shown)
                self.assertIs(shows_mean(shop, stock, orders, fraction, paper), shown)
            self.assertIs(verify_mean(shop, stock, orders, less, paper), True)
        return paper

    def test_ordinary(self):
        self.assertEqual(self.check(lean(), NONE, [(0,), (2,)]), LEAN)
        self.check(two_goods(), EMPTY, [(1, 0), (1, 1), (0, 2)])
        self.check(rests(), NONE, [(1,)])
        self.check(rests(), NONE, [(3,), (0,), (1,)])

    def test_orders_that_cannot_be_met_for_ever(self):
        self.assertIsNone(mean_paper(lean(), NONE, [(2,)]))
        self.assertIsNone(mean_paper(lean(), ((9, 9),), [(2,), (1,)]))

    def test_stocks_with_more_than_can_be_needed(self):
        self.check(lean(), ((9, 9),), [(0,), (2,)])
        self.check(steady(), ((7,),), [(1,), (2,)])
        self.check(two_goods(), ((5, 5), (5,)), [(0, 0)])

    def test_against_its_words(self):
        met = 0
        for shop, stock, orders in SOME:
            met += self.check(shop, stock, orders) is not None
        self.assertGreater(met, 20)


class VerifyTest(unittest.TestCase):
    """[24], papers whoever made them."""

    def check(self, paper, mean, shown, shop=None, stock=NONE, orders=None):
        shop = shop or lean()
        orders = orders or [(0,), (2,)]
        self.assertIs(verify_mean(shop, stock, orders, mean, paper), shown)
        self.assertIs(shows_mean(shop, stock, orders, mean, paper), shown)

    def with_number(self, state, number):
        self.assertIn(state, dict(LEAN))
        return [(each, number if each == state else old) for each, old in LEAN]

    def test_ordinary(self):
        self.check(LEAN, (1, 1), True)
        self.check(LEAN[::-1], (1, 1), True)
        self.check([(state, number + 100) for state, number in LEAN], (1, 1), True)

    def test_a_mean_that_is_too_great(self):
        for mean in [(1001, 1000), (3, 2), (2, 1), (100, 1)]:
            self.check(LEAN, mean, False)

    def test_whole_0_and_below_0(self):
        level = [(state, 0) for state, _ in LEAN]
        for mean in [(0, 1), (-1, 1), (-1, 2), (-100, 7)]:
            self.check(level, mean, True)
        self.check(level, (1, 7), False)
        self.check(LEAN, (0, 1), True)

    def test_a_mean_between(self):
        numbers = {(0, NONE): -1, (1, NONE): 1, (1, ((1, 0),)): -1}
        self.check([(state, numbers[state]) for state, _ in LEAN], (1, 2), True)
        self.check([(state, numbers[state]) for state, _ in LEAN], (3, 2), False)

    def test_a_state_left_out(self):
        self.check(LEAN[1:], (1, 1), False)
        self.check(LEAN[:2], (1, 1), False)
        self.check(LEAN[:1] + LEAN[2:], (1, 1), False)
        self.check([], (1, 1), False)
        self.check([], (-5, 1), False)

    def test_a_number_exchanged(self):
        self.check(self.with_number((0, NONE), 0), (1, 1), False)
        self.check(self.with_number((0, NONE), -2), (1, 1), False)
        self.check(self.with_number((1, NONE), -1), (1, 1), False)
        self.check(self.with_number((1, NONE), 99), (1, 1), True)
        self.check(self.with_number((1, ((1, 0),)), 0), (1, 1), False)
        self.check(self.with_number((1, ((1, 0),)), -2), (1, 1), False)

    def test_more_states_than_are_needed(self):
        self.check(LEAN + [((1, ((0, 1),)), -1)], (1, 1), True)
        self.check(LEAN + [((1, ((0, 1),)), 0)], (1, 1), False)
        self.check(LEAN + [((1, ((2, 0),)), -2)], (1, 1), False)
        self.check(LEAN + [((1, ((2, 0),)), -2), ((0, ((1, 0),)), -1)], (1, 1), True)
        self.check(LEAN + [((1, ((2, 0),)), -2), ((0, ((1, 0),)), 0)], (1, 1), False)

    def test_states_that_are_none(self):
        for state in [(2, NONE), (-1, NONE), (0, ()), (0, ((0,),)), (1, ((-1, 0),)), (0, ((0, 0), (0,)))]:
            self.check(LEAN + [(state, 0)], (1, 1), False)

    def test_orders_that_cannot_be_met_for_ever(self):
        self.check([((0, NONE), 0)], (10 ** 9, 1), True, orders=[(2,)])
        self.check([((0, NONE), 0)], (10 ** 9, 1), False, orders=[(1,)])

    def test_no_right_paper_shows_more_than_the_least_mean(self):
        seen = {}
        for shop, stock, orders in SOME[:40]:
            mean = least_mean(shop, stock, orders)
            if mean is None:
                continue
            paper = mean_paper(shop, stock, orders)
            fractions = [mean, (mean[0] * 9 + 1, mean[1] * 9), (mean[0] * 9 - 1, mean[1] * 9)]
            for at, (state, number) in list(enumerate(paper))[:12]:
                papers = [paper[:at] + paper[at + 1:]]
                papers += [paper[:at] + [(state, number + step)] + paper[at + 1:] for step in [-5, -1, 1, 5]]
                for other in papers:
                    for fraction in fractions:
                        shown = verify_mean(shop, stock, orders, fraction, other)
                        self.assertIs(shown, shows_mean(shop, stock, orders, fraction, other))
                        self.assertFalse(shown and Fraction(*fraction) > Fraction(*mean))
                        seen[shown] = seen.get(shown, 0) + 1
        self.assertGreater(min(seen[True], seen[False]), 100)


class BetterStocksTest(unittest.TestCase):
    """[10] and [24]: the numbers of a told paper do not grow with the stock."""

    def test_better_stocks_have_no_greater_numbers(self):
        for shop, stock, orders in SOME[:30]:
            paper = mean_paper(shop, stock, orders) or []
            self.assertTrue(all(state in row_graph(shop, stock, orders) for state, _ in paper[:3]))
            for (day, one), number in paper:
                for (other_day, other), other_number in paper:
                    if day == other_day and is_better(one, other):
                        self.assertLessEqual(number, other_number)


class NothingChangesTest(unittest.TestCase):
    """[2], for means."""

    def test_nothing_is_changed(self):
        shop = two_goods(9)
        orders, paper = [(1, 0), (0, 1)], [((0, EMPTY), 0)]
        least_mean(shop, EMPTY, orders), ring(shop, EMPTY, orders), mean_paper(shop, EMPTY, orders)
        verify_mean(shop, EMPTY, orders, (0, 1), paper)
        self.assertEqual((orders, paper), ([(1, 0), (0, 1)], [((0, EMPTY), 0)]))
        self.assertEqual(parts(shop), parts(two_goods(9)))

    def test_lists_are_new(self):
        ahead, around = ring(lean(), NONE, [(0,), (2,)])
        ahead.append((0,)), around.clear()
        mean_paper(lean(), NONE, [(0,), (2,)]).clear()
        self.assertEqual(ring(lean(), NONE, [(0,), (2,)]), ([], [(1,), (1,)]))
        self.assertEqual(mean_paper(lean(), NONE, [(0,), (2,)]), LEAN)


if __name__ == "__main__":
    unittest.main()
