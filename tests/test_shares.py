import itertools
import math
import random
import unittest
from fractions import Fraction

from larderdays.shares import balanced_rows, even_shares, group_costs, groups, is_stable, stable_shares, unstable_paper
from larderdays.shops import Shop
from tests.plain import best_plan, known_cases
from tests.samples import lean, parts, steady, two_goods

WHOLE, HALF = (1, 1), (1, 2)
THREE = [
    [((0,), WHOLE), ((1,), WHOLE), ((2,), WHOLE)],
    [((0,), WHOLE), ((1, 2), WHOLE)],
    [((1,), WHOLE), ((0, 2), WHOLE)],
    [((2,), WHOLE), ((0, 1), WHOLE)],
    [((0, 1), HALF), ((0, 2), HALF), ((1, 2), HALF)],
]


def costs_of(*numbers):
    """The costs of groups in the order of groups."""
    many = {1: 1, 3: 2, 7: 3, 15: 4}[len(numbers)]
    return dict(zip(groups(many), numbers))


def some_costs(many, seed, customers=(1, 2, 3)):
    """So many tuples (costs, customers); the costs of greater groups are greater, more or less."""
    chance = random.Random(seed)
    for _ in range(many):
        number = chance.choice(customers)
        yield {group: chance.randint(-2, 3) + 3 * len(group) for group in groups(number)}, number


def plain_even(costs, many):
    """[27], by the weight of each group that a customer can come to."""
    found = []
    for customer in range(many):
        share = Fraction(0)
        for size in range(many):
            others = [other for other in range(many) if other != customer]
            for group in itertools.combinations(others, size):
                weight = Fraction(math.factorial(size) * math.factorial(many - size - 1), math.factorial(many))
                grown = costs[tuple(sorted(group + (customer,)))] - (costs[group] if group else 0)
                share += weight * grown
        found.append((share.numerator, share.denominator))
    return found


def are_stable(costs, many, shares):
    """[27], word by word, of Fractions."""
    return sum(shares) == costs[tuple(range(many))] and all(
        sum(shares[customer] for customer in group) <= cost for group, cost in costs.items()
    )


def first_stable(costs, many):
    """[29], by trying all halves in turn."""
    halves = [Fraction(number, 2) for number in range(-20, 31)]
    for row in itertools.product(halves, repeat=many - 1):
        shares = list(row) + [costs[tuple(range(many))] - sum(row)]
        if are_stable(costs, many, shares):
            return shares
    return None


class GroupsTest(unittest.TestCase):
    def test_ordinary(self):
        self.assertEqual(groups(3), [(0,), (1,), (2,), (0, 1), (0, 2), (1, 2), (0, 1, 2)])
        self.assertEqual(groups(2), [(0,), (1,), (0, 1)])

    def test_one_customer(self):
        self.assertEqual(groups(1), [(0,)])

    def test_four_customers(self):
        found = groups(4)
        self.assertEqual(len(found), 15)
        self.assertEqual(found, sorted(found, key=lambda group: (len(group), group)))
        self.assertEqual(found[4:11], [(0, 1), (0, 2), (0, 3), (1, 2), (1, 3), (2, 3), (0, 1, 2)])
        self.assertEqual(found[-1], (0, 1, 2, 3))


class GroupCostsTest(unittest.TestCase):
    """[27], costs."""

    def test_ordinary(self):
        orders = [[(1, 0), (0, 0)], [(0, 1), (0, 1)], [(1, 0), (0, 2)]]
        self.assertEqual(group_costs(two_goods(), orders), {
            (0,): 5, (1,): 6, (2,): 10, (0, 1): 8, (0, 2): 15, (1, 2): 13, (0, 1, 2): 18
        })

    def test_one_customer(self):
        self.assertEqual(group_costs(steady(), [[(3,), (1,)]]), {(0,): 7})

    def test_groups_without_a_plan(self):
        self.assertEqual(group_costs(lean(), [[(1,)], [(1,)]]), {(0,): 1, (1,): 1, (0, 1): None})
        self.assertEqual(group_costs(lean(), [[(2,)], [(0,)]]), {(0,): None, (1,): 0, (0, 1): None})

    def test_together_where_one_alone_has_no_plan(self):
        # More is never easier: no group has a plan if a part of it has none.
        for shop, _, orders in known_cases(60, seed=71):
            rows = [orders, [tuple(0 for _ in order) for order in orders], orders[::-1]]
            costs = group_costs(shop, rows)
            for group, cost in costs.items():
                for other, other_cost in costs.items():
                    if set(other) <= set(group) and other_cost is None:
                        self.assertIsNone(cost)

    def test_a_budget_of_0(self):
        self.assertEqual(group_costs(lean(0), [[(0,)], [(1,)]]), {(0,): 0, (1,): None, (0, 1): None})

    def test_no_days(self):
        self.assertEqual(group_costs(lean(), [[], []]), {(0,): 0, (1,): 0, (0, 1): 0})

    def test_the_order_of_the_groups(self):
        self.assertEqual(list(group_costs(lean(), [[(0,)]] * 4)), groups(4))

    def test_against_plans(self):
        seen = {}
        for shop, _, orders in known_cases(60, seed=72, plans=100):
            empty = tuple((0,) * days for days in shop.keep)
            rows = [orders, orders[::-1], orders[1:] + orders[:1]]
            for group, cost in group_costs(shop, rows).items():
                together = [tuple(map(sum, zip(*day))) for day in zip(*[rows[customer] for customer in group])]
                plan = best_plan(shop, empty, together, 1)
                self.assertEqual(cost, None if plan is None else plan[0])
                seen[cost is None] = seen.get(cost is None, 0) + 1
        self.assertGreater(min(seen[True], seen[False]), 30)


class EvenSharesTest(unittest.TestCase):
    """[27], even shares."""

    def test_ordinary(self):
        self.assertEqual(even_shares(costs_of(4, 7, 9), 2), [(3, 1), (6, 1)])
        self.assertEqual(even_shares(costs_of(4, 6, 9), 2), [(7, 2), (11, 2)])
        self.assertEqual(even_shares(costs_of(6, 6, 6, 8, 8, 8, 9), 3), [(3, 1)] * 3)
        self.assertEqual(even_shares(costs_of(1, 2, 3, 3, 4, 5, 6), 3), [(1, 1), (2, 1), (3, 1)])

    def test_one_customer(self):
        self.assertEqual(even_shares({(0,): 5}, 1), [(5, 1)])

    def test_shares_below_0(self):
        self.assertEqual(even_shares(costs_of(0, 9, 4), 2), [(-5, 2), (13, 2)])

    def test_who_changes_no_cost_pays_nothing(self):
        self.assertEqual(even_shares(costs_of(0, 2, 3, 2, 3, 4, 4), 3), [(0, 1), (3, 2), (5, 2)])

    def test_four_customers(self):
        costs = {group: len(group) ** 2 for group in groups(4)}
        self.assertEqual(even_shares(costs, 4), [(4, 1)] * 4)

    def test_against_its_words(self):
        for costs, many in some_costs(300, 73, (1, 2, 3, 4)):
            shares = even_shares(costs, many)
            self.assertEqual(shares, plain_even(costs, many))
            self.assertEqual(sum(Fraction(*share) for share in shares), costs[tuple(range(many))])


class IsStableTest(unittest.TestCase):
    """[27], stable shares."""

    COSTS = costs_of(6, 6, 6, 8, 8, 8, 9)

    def test_ordinary(self):
        self.assertIs(is_stable(self.COSTS, 3, [(3, 1), (3, 1), (3, 1)]), True)
        self.assertIs(is_stable(self.COSTS, 3, [(1, 1), (3, 1), (5, 1)]), True)
        self.assertIs(is_stable(self.COSTS, 3, [(7, 2), (7, 2), (2, 1)]), True)

    def test_a_group_that_pays_more_than_its_cost(self):
        self.assertIs(is_stable(self.COSTS, 3, [(0, 1), (3, 1), (6, 1)]), False)
        self.assertIs(is_stable(self.COSTS, 3, [(1, 1), (1, 1), (7, 1)]), False)
        self.assertIs(is_stable(self.COSTS, 3, [(1, 2), (4, 1), (9, 2)]), False)
        self.assertIs(is_stable(costs_of(3, 3, 7), 2, [(3, 1), (4, 1)]), False)

    def test_a_little_more_or_less(self):
        self.assertIs(is_stable(self.COSTS, 3, [(3, 1), (3, 1), (301, 100)]), False)
        self.assertIs(is_stable(self.COSTS, 3, [(3, 1), (3, 1), (299, 100)]), False)
        self.assertIs(is_stable(self.COSTS, 3, [(1, 3), (1, 3), (1, 3)]), False)
        self.assertIs(is_stable(costs_of(4, 6, 9), 2, [(10, 3), (17, 3)]), True)
        self.assertIs(is_stable(costs_of(4, 6, 9), 2, [(10, 3), (16, 3)]), False)
        self.assertIs(is_stable(costs_of(4, 6, 9), 2, [(401, 100), (499, 100)]), False)
        self.assertIs(is_stable(costs_of(4, 6, 9), 2, [(4, 1), (5, 1)]), True)

    def test_one_customer(self):
        self.assertIs(is_stable({(0,): 5}, 1, [(5, 1)]), True)
        self.assertIs(is_stable({(0,): 5}, 1, [(4, 1)]), False)
        self.assertIs(is_stable({(0,): 5}, 1, [(11, 2)]), False)

    def test_four_customers(self):
        costs = {group: 10 if len(group) == 4 else 3 * len(group) for group in groups(4)}
        self.assertIs(is_stable(costs, 4, [(5, 2)] * 4), True)
        self.assertIs(is_stable(costs, 4, [(3, 1), (3, 1), (3, 1), (1, 1)]), True)
        self.assertIs(is_stable(costs, 4, [(4, 1), (2, 1), (2, 1), (2, 1)]), False)
        self.assertIs(is_stable(costs | {(0, 1, 2): 7}, 4, [(5, 2)] * 4), False)

    def test_against_its_words(self):
        chance = random.Random(74)
        seen = {}
        for costs, many in some_costs(400, 75, (1, 2, 3, 4)):
            row = [Fraction(chance.randint(-2, 14), chance.choice([1, 2, 3])) for _ in range(many - 1)]
            row.append(costs[tuple(range(many))] - sum(row) + Fraction(chance.choice([0, 0, 0, 1, -1]), 6))
            stable = is_stable(costs, many, [(share.numerator, share.denominator) for share in row])
            self.assertIs(stable, are_stable(costs, many, row))
            seen[stable] = seen.get(stable, 0) + 1
        self.assertGreater(min(seen[True], seen[False]), 30)


class BalancedRowsTest(unittest.TestCase):
    """[28]."""

    def test_one_and_two_customers(self):
        self.assertEqual(balanced_rows(1), [[((0,), WHOLE)]])
        self.assertEqual(balanced_rows(2), [[((0,), WHOLE), ((1,), WHOLE)]])

    def test_three_customers(self):
        self.assertEqual(balanced_rows(3), THREE)

    def test_each_customer_counts_once_in_all(self):
        for many in [1, 2, 3]:
            for row in balanced_rows(many):
                for customer in range(many):
                    self.assertEqual(sum(Fraction(*weight) for group, weight in row if customer in group), 1)


class UnstablePaperTest(unittest.TestCase):
    """[28], the row that bars stable shares."""

    def test_none(self):
        self.assertIsNone(unstable_paper(costs_of(6, 6, 6, 8, 8, 8, 9), 3))
        self.assertIsNone(unstable_paper(costs_of(6, 6, 6, 6, 6, 6, 9), 3))
        self.assertIsNone(unstable_paper(costs_of(3, 4, 7), 2))
        self.assertIsNone(unstable_paper({(0,): 5}, 1))
        self.assertIsNone(unstable_paper({(0,): -5}, 1))

    def test_each_row(self):
        self.assertEqual(unstable_paper(costs_of(3, 4, 8), 2), THREE[0][:2])
        self.assertEqual(unstable_paper(costs_of(3, 3, 2, 9, 9, 9, 9), 3), THREE[0])
        self.assertEqual(unstable_paper(costs_of(3, 9, 9, 9, 9, 5, 9), 3), THREE[1])
        self.assertEqual(unstable_paper(costs_of(9, 3, 9, 9, 5, 9, 9), 3), THREE[2])
        self.assertEqual(unstable_paper(costs_of(9, 9, 3, 5, 9, 9, 9), 3), THREE[3])
        self.assertEqual(unstable_paper(costs_of(9, 9, 9, 6, 6, 5, 9), 3), THREE[4])

    def test_the_first_row(self):
        self.assertEqual(unstable_paper(costs_of(1, 1, 1, 1, 1, 1, 9), 3), THREE[0])
        self.assertEqual(unstable_paper(costs_of(4, 4, 4, 1, 1, 1, 9), 3), THREE[1])
        self.assertEqual(unstable_paper(costs_of(9, 4, 4, 1, 1, 1, 9), 3), THREE[2])

    def test_against_its_words(self):
        seen = {}
        for costs, many in some_costs(500, 76):
            whole = costs[tuple(range(many))]
            barring = [
                row for row in balanced_rows(many)
                if sum(costs[group] * Fraction(*weight) for group, weight in row) < whole
            ]
            found = unstable_paper(costs, many)
            self.assertEqual(found, barring[0] if barring else None)
            seen[str(found)] = True
        self.assertGreater(len(seen), 5)


class StableSharesTest(unittest.TestCase):
    """[29]."""

    def test_ordinary(self):
        self.assertEqual(stable_shares(costs_of(4, 6, 9), 2), [(3, 1), (6, 1)])
        self.assertEqual(stable_shares(costs_of(6, 6, 6, 8, 8, 8, 9), 3), [(1, 1), (2, 1), (6, 1)])
        self.assertEqual(stable_shares(costs_of(6, 6, 6, 6, 6, 6, 9), 3), [(3, 1), (3, 1), (3, 1)])
        self.assertEqual(stable_shares(costs_of(2, 3, 4, 5, 6, 7, 9), 3), [(2, 1), (3, 1), (4, 1)])

    def test_one_customer(self):
        self.assertEqual(stable_shares({(0,): 5}, 1), [(5, 1)])
        self.assertEqual(stable_shares({(0,): 0}, 1), [(0, 1)])

    def test_shares_below_0(self):
        self.assertEqual(stable_shares(costs_of(0, 9, 4), 2), [(-5, 1), (9, 1)])

    def test_none(self):
        self.assertIsNone(stable_shares(costs_of(3, 4, 8), 2))
        self.assertIsNone(stable_shares(costs_of(9, 9, 9, 6, 6, 5, 9), 3))
        for costs in [(3, 3, 2, 9, 9, 9, 9), (3, 9, 9, 9, 9, 5, 9), (9, 3, 9, 9, 5, 9, 9), (9, 9, 3, 5, 9, 9, 9)]:
            self.assertIsNone(stable_shares(costs_of(*costs), 3))

    def test_against_its_words(self):
        seen = {}
        for costs, many in some_costs(250, 77):
            shares = stable_shares(costs, many)
            self.assertIs(shares is None, unstable_paper(costs, many) is not None)
            told = first_stable(costs, many)
            self.assertEqual(shares, None if told is None else [(share.numerator, share.denominator) for share in told])
            if shares is not None:
                self.assertIs(is_stable(costs, many, shares), True)
            seen[many, shares is None] = True
        self.assertEqual(len(seen), 5)


class NothingChangesTest(unittest.TestCase):
    """[2], for shares."""

    def test_nothing_is_changed(self):
        shop = Shop([2], [(1, (1,))], 3, [[(0,)]])
        before = parts(shop)
        orders = [[(1,), (2,)], [(0,), (1,)]]
        group_costs(shop, orders)
        self.assertEqual(orders, [[(1,), (2,)], [(0,), (1,)]])
        self.assertEqual(parts(shop), before)
        costs, shares = costs_of(6, 6, 6, 8, 8, 8, 9), [(3, 1), (3, 1), (3, 1)]
        even_shares(costs, 3), is_stable(costs, 3, shares), unstable_paper(costs, 3), stable_shares(costs, 3)
        self.assertEqual((costs, shares), (costs_of(6, 6, 6, 8, 8, 8, 9), [(3, 1), (3, 1), (3, 1)]))

    def test_lists_are_new(self):
        for row in balanced_rows(3):
            row.clear()
        groups(3).clear()
        unstable_paper(costs_of(3, 4, 8), 2).clear()
        self.assertEqual(balanced_rows(3), THREE)
        self.assertEqual(len(groups(3)), 7)
        self.assertEqual(unstable_paper(costs_of(3, 4, 8), 2), THREE[0][:2])


if __name__ == "__main__":
    unittest.main()
