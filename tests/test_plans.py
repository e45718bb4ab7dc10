import unittest

from larderdays.bounds import price_bound, simple_prices
from larderdays.days import run, total_spoiled
from larderdays.plans import least_plan, least_waste, plan_paper, stocks_by_days, verify_plan_paper
from larderdays.shops import Shop, choice_cost, choices, is_choice
from tests.plain import best_plan, known_cases, shown_plan_paper, shows_bound, stocks_met
from tests.samples import lean, parts, steady, three_goods, two_goods

EMPTY = ((0, 0), (0,))
NONE = ((0, 0),)
ROW = [(1, 0), (1, 1), (0, 2)]
SOME = known_cases(80, seed=41)

# The plan papers of two_goods from its empty stock on, and of lean, where one of two choices leaves too little.
PAPER = [
    ((0, EMPTY), 10),
    ((1, EMPTY), 5),
    ((1, ((1, 0), (0,))), 3),
    ((2, EMPTY), 0),
    ((2, ((1, 0), (0,))), 0),
    ((2, ((2, 0), (0,))), 0),
]
LEAN = [((0, NONE), 2), ((1, NONE), None), ((1, ((1, 0),)), 1), ((2, NONE), 0)]


class LeastPlanTest(unittest.TestCase):
    """[19], costs."""

    def test_ordinary(self):
        self.assertEqual(least_plan(two_goods(), EMPTY, ROW), (15, [(1, 0), (1, 0), (1, 0)]))
        self.assertEqual(least_plan(lean(), NONE, [(0,), (2,)]), (2, [(1,), (1,)]))
        self.assertEqual(least_plan(steady(), ((0,),), [(3,), (1,), (4,)]), (13, [(1, 1), (1, 0), (0, 2)]))

    def test_no_orders_at_all(self):
        self.assertEqual(least_plan(two_goods(), EMPTY, []), (0, []))
        self.assertEqual(least_plan(two_goods(), ((4, 4), (4,)), []), (0, []))

    def test_one_order(self):
        self.assertEqual(least_plan(two_goods(), EMPTY, [(0, 1)]), (3, [(0, 1)]))
        self.assertEqual(least_plan(two_goods(), EMPTY, [(1, 3)]), (8, [(1, 1)]))

    def test_orders_of_nothing(self):
        self.assertEqual(least_plan(two_goods(), EMPTY, [(0, 0)] * 3), (0, [(0, 0)] * 3))

    def test_orders_that_no_plan_meets(self):
        self.assertIsNone(least_plan(two_goods(), EMPTY, [(3, 0)]))
        self.assertIsNone(least_plan(two_goods(), EMPTY, [(0, 0), (2, 5)]))
        self.assertIsNone(least_plan(lean(), NONE, [(0,), (2,), (2,)]))
        self.assertIsNone(least_plan(lean(), NONE, [(2,), (0,)]))

    def test_the_first_plan_of_equal_costs(self):
        shop = Shop([2], [(1, (1,)), (1, (1,))], 2, [[(0,)]])
        self.assertEqual(least_plan(shop, NONE, [(1,), (1,)]), (2, [(0, 1), (0, 1)]))
        self.assertEqual(least_plan(shop, NONE, [(0,), (3,)]), (3, [(0, 1), (0, 2)]))
        shop = Shop([2], [(2, (2,)), (1, (1,))], 2, [[(0,)]])
        self.assertEqual(least_plan(shop, NONE, [(2,), (1,)]), (3, [(0, 2), (0, 1)]))
        shop = Shop([3], [(0, (1,))], 3, [[(0,)]])
        self.assertEqual(least_plan(shop, ((0, 0, 0),), [(0,), (0,), (4,)]), (0, [(0,), (1,), (3,)]))

    def test_what_gives_nothing_costs_nothing(self):
        shop = Shop([1], [(0, (0,)), (2, (1,))], 2, [[(0,)]])
        self.assertEqual(least_plan(shop, ((0,),), [(1,), (0,)]), (2, [(0, 1), (0, 0)]))

    def test_the_stock_in_the_first_morning(self):
        self.assertEqual(least_plan(two_goods(), ((1, 0), (0,)), ROW), (10, [(0, 0), (1, 0), (1, 0)]))
        self.assertEqual(least_plan(two_goods(), ((1, 0), (9,)), ROW), (10, [(0, 0), (1, 0), (1, 0)]))

    def test_pieces_at_the_last_places_in_the_morning(self):
        self.assertEqual(least_plan(two_goods(), ((0, 2), (0,)), ROW), (8, [(0, 0), (0, 1), (1, 0)]))
        self.assertEqual(least_plan(lean(), ((0, 3),), [(1,), (2,)]), (0, [(0,), (0,)]))
        self.assertEqual(least_plan(lean(), ((3, 0),), [(1,), (1,)]), (1, [(0,), (1,)]))

    def test_a_budget(self):
        self.assertEqual(least_plan(two_goods(5), EMPTY, ROW), (15, [(1, 0), (1, 0), (1, 0)]))
        self.assertIsNone(least_plan(two_goods(4), EMPTY, ROW))
        self.assertEqual(least_plan(steady(3), ((0,),), [(1,), (2,)]), (5, [(1, 0), (0, 1)]))

    def test_a_budget_of_0(self):
        self.assertEqual(least_plan(lean(0), ((1, 1),), [(1,), (1,)]), (0, [(0,), (0,)]))
        self.assertIsNone(least_plan(lean(0), NONE, [(1,)]))
        self.assertEqual(least_plan(three_goods(0), ((0, 0, 0), (0,), (0, 0)), [(0, 2, 0)]), (0, [(0, 2, 0)]))

    def test_no_choice_but_the_one_without_sides(self):
        shop = Shop([2], [(3, (1,))], 1, [[(0,)]], 2)
        self.assertEqual(choices(shop), [(0,)])
        self.assertEqual(least_plan(shop, ((1, 1),), [(1,), (1,)]), (0, [(0,), (0,)]))
        self.assertIsNone(least_plan(shop, ((2, 0),), [(1,), (1,)]))

    def test_a_good_that_no_pattern_gives(self):
        shop = Shop([1, 3], [(3, (1, 0))], 2, [[(0, 0)]])
        self.assertIsNone(least_plan(shop, ((0,), (0, 0, 0)), [(0, 1)]))
        self.assertEqual(least_plan(shop, ((0,), (0, 1, 0)), [(1, 0), (0, 1)]), (3, [(1,), (0,)]))
        self.assertIsNone(least_plan(shop, ((0,), (0, 1, 0)), [(1, 0), (0, 0), (0, 1)]))

    def test_many_days(self):
        orders = [(1,), (0,)] * 200
        cost, plan = least_plan(lean(), NONE, orders)
        self.assertEqual((cost, plan), (200, [(1,), (0,)] * 200))

    def test_against_its_words(self):
        seen = {}
        for shop, stock, orders in SOME:
            found = least_plan(shop, stock, orders)
            self.assertEqual(found, best_plan(shop, stock, orders, 1))
            seen[found is None] = seen.get(found is None, 0) + 1
            if found is not None:
                self.assertEqual(sum(choice_cost(shop, choice) for choice in found[1]), found[0])
                self.assertEqual(len(run(shop, stock, found[1], orders)), len(orders))
        self.assertGreater(min(seen[True], seen[False]), 10)


class LeastWasteTest(unittest.TestCase):
    """[19], waste."""

    def test_ordinary(self):
        self.assertEqual(least_waste(two_goods(), EMPTY, ROW), (3, [(1, 0), (1, 0), (0, 2)]))
        self.assertEqual(least_waste(lean(), NONE, [(0,), (2,)]), (0, [(1,), (1,)]))

    def test_waste_is_not_cost(self):
        shop = Shop([1], [(1, (4,)), (9, (1,))], 3, [[(0,)]])
        self.assertEqual(least_plan(shop, ((0,),), [(3,)]), (1, [(1, 0)]))
        self.assertEqual(least_waste(shop, ((0,),), [(3,)]), (0, [(0, 3)]))

    def test_no_orders_at_all(self):
        self.assertEqual(least_waste(two_goods(), ((4, 4), (4,)), []), (0, []))

    def test_one_order(self):
        self.assertEqual(least_waste(two_goods(), EMPTY, [(1, 0)]), (2, [(1, 0)]))
        self.assertEqual(least_waste(two_goods(), EMPTY, [(0, 2)]), (0, [(0, 2)]))

    def test_the_stock_spoils(self):
        self.assertEqual(least_waste(lean(), ((3, 2),), [(1,), (0,)]), (4, [(0,), (0,)]))
        self.assertEqual(least_waste(lean(), ((3, 2),), [(1,)]), (2, [(0,)]))
        self.assertEqual(least_waste(lean(), ((0, 2),), [(0,)]), (0, [(0,)]))

    def test_what_is_left_behind_the_last_night_is_no_waste(self):
        shop = Shop([3], [(1, (5,))], 1, [[(0,)]])
        self.assertEqual(least_waste(shop, ((0, 0, 0),), [(1,), (0,)]), (0, [(1,), (0,)]))
        self.assertEqual(least_waste(shop, ((0, 0, 0),), [(1,), (0,), (0,)]), (4, [(1,), (0,), (0,)]))

    def test_the_first_plan_of_equal_waste(self):
        shop = Shop([2], [(9, (1,)), (1, (1,))], 2, [[(0,)]])
        self.assertEqual(least_waste(shop, NONE, [(1,), (1,)]), (0, [(0, 1), (0, 1)]))
        shop = Shop([2], [(1, (2,)), (2, (1,))], 2, [[(0,)]])
        self.assertEqual(least_waste(shop, NONE, [(2,)]), (0, [(0, 2)]))

    def test_orders_that_no_plan_meets(self):
        self.assertIsNone(least_waste(two_goods(), EMPTY, [(3, 0)]))
        self.assertIsNone(least_waste(lean(0), NONE, [(1,)]))
        self.assertIsNone(least_waste(lean(), NONE, [(0,), (2,), (2,)]))

    def test_a_budget_of_0(self):
        self.assertEqual(least_waste(lean(0), ((2, 0),), [(0,), (0,)]), (2, [(0,), (0,)]))

    def test_against_its_words(self):
        seen = {}
        for shop, stock, orders in SOME:
            found = least_waste(shop, stock, orders)
            self.assertEqual(found, best_plan(shop, stock, orders, 2))
            if found is not None:
                self.assertEqual(total_spoiled(run(shop, stock, found[1], orders)), found[0])
                seen[found[0]] = True
        self.assertGreater(len(seen), 4)


class StocksByDaysTest(unittest.TestCase):
    """[20], the spots."""

    def test_ordinary(self):
        self.assertEqual(stocks_by_days(two_goods(), EMPTY, ROW[:2]), [
            [EMPTY], [EMPTY, ((1, 0), (0,))], [EMPTY, ((1, 0), (0,)), ((2, 0), (0,))]
        ])

    def test_no_orders_at_all(self):
        self.assertEqual(stocks_by_days(two_goods(), ((1, 2), (3,)), []), [[((1, 2), (3,))]])

    def test_orders_that_no_plan_meets(self):
        self.assertEqual(stocks_by_days(lean(), NONE, [(2,)]), [[NONE], []])
        self.assertEqual(stocks_by_days(lean(), NONE, [(1,), (2,), (0,)]), [[NONE], [NONE], [], []])

    def test_stocks_with_which_the_next_order_cannot_be_met_are_there(self):
        self.assertEqual(stocks_by_days(lean(), NONE, [(0,), (2,)]), [[NONE], [NONE, ((1, 0),)], [NONE]])

    def test_a_stock_with_more_than_can_be_needed(self):
        self.assertEqual(stocks_by_days(lean(), ((9, 9),), [(0,), (1,)]), [
            [((9, 9),)], [((9, 0),), ((10, 0),)], [((0, 0),), ((1, 0),)]
        ])

    def test_against_its_words(self):
        for shop, stock, orders in SOME:
            self.assertEqual(stocks_by_days(shop, stock, orders), stocks_met(shop, stock, orders))


class PlanPaperTest(unittest.TestCase):
    """[20], the paper."""

    def test_ordinary(self):
        self.assertEqual(plan_paper(two_goods(), EMPTY, ROW[:2]), PAPER)
        self.assertEqual(plan_paper(lean(), NONE, [(0,), (2,)]), LEAN)

    def test_no_orders_at_all(self):
        self.assertEqual(plan_paper(two_goods(), EMPTY, []), [((0, EMPTY), 0)])

    def test_orders_that_no_plan_meets(self):
        self.assertEqual(plan_paper(lean(), NONE, [(2,)]), [((0, NONE), None)])
        self.assertEqual(plan_paper(lean(), ((1, 0),), [(0,), (2,), (2,)]), [
            ((0, ((1, 0),)), None), ((1, NONE), None), ((1, ((1, 0),)), None), ((2, NONE), None)
        ])

    def test_a_budget_of_0(self):
        self.assertEqual(plan_paper(lean(0), ((0, 1),), [(1,)]), [((0, ((0, 1),)), 0), ((1, NONE), 0)])

    def test_against_its_words(self):
        for shop, stock, orders in SOME:
            self.assertEqual(plan_paper(shop, stock, orders), shown_plan_paper(shop, stock, orders))

    def test_it_shows_the_least_cost_and_no_greater_bound(self):
        for shop, stock, orders in SOME:
            paper = plan_paper(shop, stock, orders)
            plan = least_plan(shop, stock, orders)
            if plan is None:
                for bound in [None, 0, 10 ** 9]:
                    self.assertIs(verify_plan_paper(shop, stock, orders, bound, paper), True)
            else:
                for step in [-1000, -1, 0]:
                    self.assertIs(verify_plan_paper(shop, stock, orders, plan[0] + step, paper), True)
                for bound in [plan[0] + 1, plan[0] + 1000, None]:
                    self.assertIs(verify_plan_paper(shop, stock, orders, bound, paper), False)


def changed_papers(shop, paper):
    """The paper with a spot left out, put in, exchanged, or with another number."""
    yield paper[::-1]
    for at, ((day, stock), number) in enumerate(paper):
        yield paper[:at] + paper[at + 1:]
        numbers = [None, 0, -1] if number is None else [None, 0, number - 1, number + 1]
        spots = [(day + 1, stock), (day - 1, stock), (day, stock[1:]), (day, stock + ((0,),))]
        spots.append((day, ((-1,) + stock[0][1:],) + stock[1:]))
        spots.append((day, ((stock[0][0] + 1,) + stock[0][1:],) + stock[1:]))
        for other in numbers:
            yield paper[:at] + [((day, stock), other)] + paper[at + 1:]
        for spot in spots:
            if spot not in [each for each, _ in paper]:
                yield paper[:at] + [(spot, number)] + paper[at + 1:]
                yield paper + [(spot, number)]


class VerifyTest(unittest.TestCase):
    """[20], papers whoever made them."""

    def check(self, paper, bound, shown, shop=None, stock=EMPTY, orders=None):
        shop = shop or two_goods()
        orders = ROW[:2] if orders is None else orders
        self.assertIs(verify_plan_paper(shop, stock, orders, bound, paper), shown)
        self.assertIs(shows_bound(shop, stock, orders, bound, paper), shown)

    def with_number(self, spot, number):
        self.assertIn(spot, dict(PAPER))
        return [(each, number if each == spot else old) for each, old in PAPER]

    def test_ordinary(self):
        for bound in [-5, 0, 9, 10]:
            self.check(PAPER, bound, True)
        self.check(PAPER[::-1], 10, True)

    def test_a_bound_that_is_too_great(self):
        for bound in [11, 12, 1000]:
            self.check(PAPER, bound, False)

    def test_the_bound_none_where_there_is_a_plan(self):
        self.check(PAPER, None, False)
        self.check(self.with_number((0, EMPTY), None), None, False)

    def test_a_spot_left_out(self):
        for at in range(len(PAPER)):
            self.check(PAPER[:at] + PAPER[at + 1:], 0, False)
        self.check([], 0, False)

    def test_a_number_exchanged(self):
        self.check(self.with_number((0, EMPTY), 11), 10, False)
        self.check(self.with_number((0, EMPTY), 9), 9, True)
        self.check(self.with_number((0, EMPTY), 9), 10, False)
        self.check(self.with_number((1, EMPTY), 6), 10, False)
        self.check(self.with_number((1, EMPTY), 4), 9, False)
        self.check(self.with_number((1, EMPTY), None), 10, False)
        self.check(self.with_number((1, ((1, 0), (0,))), 2), 10, True)
        self.check(self.with_number((1, ((1, 0), (0,))), -1), 9, False)
        self.check(self.with_number((2, EMPTY), None), 10, False)
        self.check(self.with_number((2, EMPTY), 1), 10, False)
        self.check(self.with_number((2, ((2, 0), (0,))), -1), 10, True)

    def test_more_spots_than_are_needed(self):
        self.check(PAPER + [((2, ((7, 7), (7,))), 0)], 10, True)
        self.check(PAPER + [((2, ((7, 7), (7,))), 1)], 10, False)
        self.check(PAPER + [((1, ((7, 7), (7,))), 0)], 10, False)
        self.check(PAPER + [((1, ((0, 0), (1,))), 5)], 10, True)
        self.check(PAPER + [((1, ((0, 0), (1,))), 6)], 10, False)

    def test_a_spot_behind_more_days(self):
        self.check(PAPER + [((3, EMPTY), 0)], 10, False)
        self.check(PAPER + [((3, EMPTY), None)], 10, False)
        self.check([((1, EMPTY), 0), ((0, EMPTY), 0)], 0, False, orders=[])

    def test_spots_that_are_none(self):
        for spot in [(-1, EMPTY), (1, ((0, 0),)), (1, ((0, 0), (0, 0))), (1, ((0,), (0,))), (2, ((-1, 0), (0,)))]:
            self.check(PAPER + [(spot, 0)], 10, False)

    def test_a_paper_for_another_stock(self):
        self.check(PAPER, 10, False, stock=((1, 0), (0,)))
        self.check(PAPER + [((0, ((1, 0), (0,))), 5)], 5, False, stock=((1, 0), (0,)))
        other = PAPER + [((0, ((1, 0), (0,))), 5), ((1, ((2, 0), (0,))), 3)]
        self.check(other + [((2, ((3, 0), (0,))), 0)], 5, True, stock=((1, 0), (0,)))

    def test_where_there_is_no_plan(self):
        paper = plan_paper(lean(), ((1, 0),), [(0,), (2,), (2,)])
        for bound in [None, 0, 10 ** 9]:
            self.check(paper, bound, True, lean(), ((1, 0),), [(0,), (2,), (2,)])
        with_numbers = [(spot, 10 ** 9 if day == 2 else number) for (spot, number), day in zip(paper, [0, 1, 1, 2])]
        self.check(with_numbers, None, False, lean(), ((1, 0),), [(0,), (2,), (2,)])
        self.check([((0, NONE), 10 ** 9)], 10 ** 9, True, lean(), NONE, [(2,)])
        self.check([((0, NONE), 10 ** 9)], None, False, lean(), NONE, [(2,)])

    def test_no_orders_at_all(self):
        self.check([((0, EMPTY), 0)], 0, True, orders=[])
        self.check([((0, EMPTY), -3)], -3, True, orders=[])
        self.check([((0, EMPTY), 0)], 1, False, orders=[])
        self.check([((0, EMPTY), 1)], 1, False, orders=[])
        self.check([((0, EMPTY), None)], 0, False, orders=[])
        self.check([((0, EMPTY), None)], None, False, orders=[])

    def test_no_right_paper_shows_more_than_the_least_cost(self):
        seen = {}
        for shop, stock, orders in SOME[:40]:
            plan = least_plan(shop, stock, orders)
            least = None if plan is None else plan[0]
            for paper in changed_papers(shop, plan_paper(shop, stock, orders)):
                for bound in [None, 0, 3] + ([] if least is None else [least, least + 1]):
                    shown = verify_plan_paper(shop, stock, orders, bound, paper)
                    self.assertIs(shown, shows_bound(shop, stock, orders, bound, paper))
                    self.assertFalse(shown and least is not None and (bound is None or bound > least))
                    seen[shown] = seen.get(shown, 0) + 1
        self.assertGreater(min(seen[True], seen[False]), 300)


class NothingChangesTest(unittest.TestCase):
    """[2], for plans."""

    def test_nothing_is_changed(self):
        shop = two_goods(9)
        orders, paper, stock = list(ROW), list(PAPER), ((1, 2), (1,))
        least_plan(shop, stock, orders), least_waste(shop, stock, orders), stocks_by_days(shop, stock, orders)
        plan_paper(shop, stock, orders), verify_plan_paper(shop, stock, orders, 3, paper)
        self.assertEqual((orders, paper, stock), (ROW, PAPER, ((1, 2), (1,))))
        self.assertEqual(parts(shop), parts(two_goods(9)))

    def test_lists_are_new(self):
        for call in [stocks_by_days, plan_paper]:
            found = call(two_goods(), EMPTY, ROW)
            told = list(found)
            found.clear()
            self.assertEqual(call(two_goods(), EMPTY, ROW), told)
        stocks_by_days(two_goods(), EMPTY, ROW)[0].clear()
        least_plan(two_goods(), EMPTY, ROW)[1].clear()
        self.assertEqual(least_plan(two_goods(), EMPTY, ROW)[1], [(1, 0)] * 3)


class BoundsMeetTest(unittest.TestCase):
    """[19] to [21] together: choices of the shop, and no bound above the least cost."""

    def test_plans_are_of_choices(self):
        for shop, stock, orders in SOME:
            for found in [least_plan(shop, stock, orders), least_waste(shop, stock, orders)]:
                if found is not None:
                    self.assertTrue(all(is_choice(shop, choice) for choice in found[1]))
                    self.assertEqual(len(found[1]), len(orders))

    def test_prices_and_papers(self):
        for shop, stock, orders in SOME:
            bound = price_bound(shop, stock, orders, simple_prices(shop, orders))
            self.assertIs(verify_plan_paper(shop, stock, orders, bound, plan_paper(shop, stock, orders)), True)


if __name__ == "__main__":
    unittest.main()
