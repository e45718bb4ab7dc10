import itertools
import math
import random
import unittest

from larderdays.rests import exact_sides, gaps, least_rest, needed_patterns
from larderdays.shops import Shop
from tests.brute import all_choices
from tests.samples import lean, parts, steady, three_goods, two_goods


def shop_of(*rows, most=1, budget=None):
    """A shop whose patterns give these counts."""
    return Shop([1] * len(rows[0]), [(place + 1, row) for place, row in enumerate(rows)], most, [[rows[0]]], budget)


def gives(shop, sides):
    """[25]."""
    return tuple(
        sum(many * counts[good] for many, (_, counts) in zip(sides, shop.patterns)) for good in range(len(shop.keep))
    )


def plain_sides(shop, order):
    """[25], by all tuples of sides; more of a pattern than pieces in the order are never of use."""
    most = [max(order) if any(counts) else 0 for _, counts in shop.patterns]
    found = [sides for sides in itertools.product(*[range(many + 1) for many in most]) if gives(shop, sides) == order]
    return min(found, key=lambda sides: (sum(sides), sides), default=None)


def plain_needed(shop):
    """[25], word by word."""
    rows = [counts for _, counts in shop.patterns]
    found = []
    for place, counts in enumerate(rows):
        others = [row for row in rows if row != counts]
        if any(counts) and counts not in rows[:place]:
            if not others or plain_sides(shop_of(*others), counts) is None:
                found.append(place)
    return found


def plain_gaps(shop, good):
    """[26], by going up one number after the other."""
    given = {counts[good] for _, counts in shop.patterns} - {0}
    if not given:
        return None
    amounts = {0}
    for amount in range(1, 300):
        if any(amount - count in amounts for count in given):
            amounts.add(amount)
    divisor = math.gcd(*given)
    return divisor, [amount for amount in range(0, 300, divisor) if amount not in amounts]


def some_shops(many, seed, goods=(1, 2, 3), largest=4):
    chance = random.Random(seed)
    for _ in range(many):
        length = chance.choice(goods)
        rows = [tuple(chance.randint(0, largest) for _ in range(length)) for _ in range(chance.randint(1, 4))]
        yield shop_of(*rows, most=chance.randint(1, 4), budget=chance.choice([None, 0, 3, 8])), chance


class ExactSidesTest(unittest.TestCase):
    """[25]."""

    def test_ordinary(self):
        self.assertEqual(exact_sides(two_goods(), (2, 5)), (2, 1))
        self.assertEqual(exact_sides(three_goods(), (3, 4, 3)), (1, 3, 1))
        self.assertEqual(exact_sides(steady(), (5,)), (1, 2))

    def test_none(self):
        self.assertIsNone(exact_sides(two_goods(), (1, 1)))
        self.assertIsNone(exact_sides(two_goods(), (1, 0)))
        self.assertIsNone(exact_sides(shop_of((4,), (6,)), (5,)))
        self.assertIsNone(exact_sides(shop_of((4,), (6,)), (2,)))

    def test_an_order_of_nothing(self):
        self.assertEqual(exact_sides(two_goods(), (0, 0)), (0, 0))
        self.assertEqual(exact_sides(shop_of((0,), (3,)), (0,)), (0, 0))
        self.assertEqual(exact_sides(shop_of((0, 0)), (0, 0)), (0,))

    def test_the_fewest_sides(self):
        self.assertEqual(exact_sides(shop_of((1,), (5,), (7,)), (14,)), (0, 0, 2))
        self.assertEqual(exact_sides(shop_of((1,), (5,), (7,)), (15,)), (0, 3, 0))
        self.assertEqual(exact_sides(shop_of((1,), (5,), (7,)), (10,)), (0, 2, 0))
        self.assertEqual(exact_sides(shop_of((7,), (5,), (1,)), (11,)), (0, 2, 1))

    def test_the_first_of_the_fewest(self):
        self.assertEqual(exact_sides(shop_of((1,), (3,), (2,)), (4,)), (0, 0, 2))
        self.assertEqual(exact_sides(shop_of((2,), (3,), (1,)), (4,)), (0, 1, 1))
        self.assertEqual(exact_sides(shop_of((1, 0), (0, 1), (1, 1), (2, 0)), (2, 1)), (0, 1, 0, 1))

    def test_patterns_that_are_alike(self):
        self.assertEqual(exact_sides(shop_of((2,), (2,), (2,)), (6,)), (0, 0, 3))
        self.assertEqual(exact_sides(shop_of((2, 1), (1, 0), (2, 1)), (3, 1)), (0, 1, 1))

    def test_patterns_that_give_nothing(self):
        self.assertEqual(exact_sides(shop_of((0,), (2,), (0,)), (4,)), (0, 2, 0))
        self.assertIsNone(exact_sides(shop_of((0,), (0,)), (1,)))

    def test_goods_that_no_pattern_gives(self):
        self.assertIsNone(exact_sides(shop_of((1, 0), (2, 0)), (3, 1)))
        self.assertEqual(exact_sides(shop_of((1, 0), (2, 0)), (3, 0)), (1, 1))

    def test_neither_the_most_sides_nor_a_budget_counts(self):
        for budget in [None, 0, 1]:
            self.assertEqual(exact_sides(lean(budget), (20,)), (20,))
            self.assertEqual(exact_sides(two_goods(budget), (5, 20)), (5, 10))

    def test_great_orders(self):
        shop = shop_of((1, 0, 0, 0), (0, 1, 0, 0), (9, 9, 1, 0), (0, 0, 3, 9))
        self.assertEqual(exact_sides(shop, (20, 20, 20, 20)), None)
        self.assertEqual(exact_sides(shop, (20, 20, 8, 18)), (2, 2, 2, 2))

    def test_against_its_words(self):
        seen = {}
        for shop, chance in some_shops(120, 61):
            for _ in range(6):
                order = tuple(chance.randint(0, 5) for _ in shop.keep)
                found = exact_sides(shop, order)
                self.assertEqual(found, plain_sides(shop, order))
                seen[found is None] = seen.get(found is None, 0) + 1
        self.assertGreater(min(seen[True], seen[False]), 50)


class LeastRestTest(unittest.TestCase):
    """[4], over all choices of the shop."""

    def test_ordinary(self):
        self.assertEqual(least_rest(two_goods(), (1, 1)), (1, (1, 0)))
        self.assertEqual(least_rest(two_goods(), (0, 2)), (0, (0, 2)))
        self.assertEqual(least_rest(steady(), (3,)), (0, (1, 1)))

    def test_the_first_of_the_least(self):
        self.assertEqual(least_rest(shop_of((1,), (2,), (1,), most=3), (2,)), (0, (0, 0, 2)))
        self.assertEqual(least_rest(shop_of((2,), (2,), most=3), (3,)), (1, (0, 2)))
        self.assertEqual(least_rest(shop_of((0,), (2,), (0,), most=3), (1,)), (1, (0, 1, 0)))

    def test_none(self):
        self.assertIsNone(least_rest(two_goods(), (3, 0)))
        self.assertIsNone(least_rest(two_goods(), (0, 5)))
        self.assertIsNone(least_rest(shop_of((1, 0)), (0, 1)))

    def test_an_order_of_nothing(self):
        self.assertEqual(least_rest(two_goods(), (0, 0)), (0, (0, 0)))
        self.assertEqual(least_rest(two_goods(0), (0, 0)), (0, (0, 0)))

    def test_the_most_sides_and_a_budget_count(self):
        self.assertEqual(least_rest(two_goods(8), (1, 3)), (0, (1, 1)))
        self.assertIsNone(least_rest(two_goods(7), (1, 3)))
        self.assertIsNone(least_rest(two_goods(0), (0, 1)))
        self.assertIsNone(least_rest(lean(), (2,)))
        self.assertEqual(least_rest(three_goods(0), (0, 2, 0)), (0, (0, 2, 0)))

    def test_against_its_words(self):
        for shop, chance in some_shops(120, 62):
            for _ in range(5):
                order = tuple(chance.randint(0, 6) for _ in shop.keep)
                found = [
                    (sum(gives(shop, choice)) - sum(order), choice)
                    for choice in all_choices(shop)
                    if all(given >= count for given, count in zip(gives(shop, choice), order))
                ]
                self.assertEqual(least_rest(shop, order), min(found, default=None))


class NeededPatternsTest(unittest.TestCase):
    """[25]."""

    def test_ordinary(self):
        self.assertEqual(needed_patterns(two_goods()), [0, 1])
        self.assertEqual(needed_patterns(steady()), [0])
        self.assertEqual(needed_patterns(shop_of((4,), (6,), (10,), (9,))), [0, 1, 3])

    def test_what_others_give_together(self):
        self.assertEqual(needed_patterns(shop_of((1, 1), (1, 0), (0, 1))), [1, 2])
        self.assertEqual(needed_patterns(shop_of((2, 2), (1, 1), (3, 3))), [1])

    def test_patterns_that_are_alike(self):
        self.assertEqual(needed_patterns(shop_of((2,), (2,), (2,))), [0])
        self.assertEqual(needed_patterns(shop_of((2,), (1,), (2,), (1,))), [1])
        self.assertEqual(needed_patterns(shop_of((3, 0), (0, 2), (3, 0), (0, 2))), [0, 1])

    def test_patterns_that_give_nothing(self):
        self.assertEqual(needed_patterns(shop_of((0, 0), (0, 0))), [])
        self.assertEqual(needed_patterns(shop_of((0, 0), (1, 2), (0, 0))), [1])

    def test_one_pattern(self):
        self.assertEqual(needed_patterns(shop_of((9, 9, 9, 9))), [0])

    def test_neither_the_most_sides_nor_a_budget_counts(self):
        self.assertEqual(needed_patterns(shop_of((1,), (9,), most=1, budget=0)), [0])

    def test_against_its_words(self):
        seen = {}
        for shop, _ in some_shops(250, 63, largest=3):
            found = needed_patterns(shop)
            self.assertEqual(found, plain_needed(shop))
            seen[len(found)] = True
        self.assertEqual(sorted(seen), [0, 1, 2, 3, 4])

    def test_the_needed_patterns_are_enough(self):
        for shop, chance in some_shops(100, 64, largest=3):
            rows = [shop.patterns[place][1] for place in needed_patterns(shop)]
            for _ in range(5):
                order = tuple(chance.randint(0, 6) for _ in shop.keep)
                if rows:
                    enough = exact_sides(shop_of(*rows), order)
                    self.assertIs(enough is None, exact_sides(shop, order) is None)


class GapsTest(unittest.TestCase):
    """[26]."""

    def test_ordinary(self):
        self.assertEqual(gaps(shop_of((3,), (5,)), 0), (1, [1, 2, 4, 7]))
        self.assertEqual(gaps(shop_of((4,), (6,)), 0), (2, [2]))
        self.assertEqual(gaps(shop_of((2,), (1,)), 0), (1, []))

    def test_for_themselves(self):
        shop = shop_of((3, 2), (5, 0), (0, 2))
        self.assertEqual(gaps(shop, 0), (1, [1, 2, 4, 7]))
        self.assertEqual(gaps(shop, 1), (2, []))

    def test_one_count(self):
        for count in range(1, 10):
            self.assertEqual(gaps(shop_of((count,)), 0), (count, []))
            self.assertEqual(gaps(shop_of((count,), (count,), (0,)), 0), (count, []))

    def test_many_gaps(self):
        divisor, found = gaps(shop_of((9,), (8,)), 0)
        self.assertEqual((divisor, len(found), found[-1]), (1, 28, 55))
        self.assertEqual(gaps(shop_of((6,), (9,)), 0), (3, [3]))

    def test_a_good_that_no_pattern_gives(self):
        self.assertIsNone(gaps(shop_of((3, 0), (5, 0)), 1))
        self.assertIsNone(gaps(shop_of((0,)), 0))

    def test_against_its_words(self):
        for rows in itertools.chain(
            itertools.product(range(10), repeat=2), itertools.combinations(range(10), 3)
        ):
            shop = shop_of(*[(count,) for count in rows])
            self.assertEqual(gaps(shop, 0), plain_gaps(shop, 0))


class NothingChangesTest(unittest.TestCase):
    """[2], for rests."""

    def test_a_shop_is_not_changed(self):
        shop = two_goods(5)
        exact_sides(shop, (2, 5)), least_rest(shop, (1, 1)), needed_patterns(shop), gaps(shop, 0)
        self.assertEqual(parts(shop), parts(two_goods(5)))

    def test_lists_are_new(self):
        needed_patterns(two_goods()).clear()
        gaps(shop_of((3,), (5,)), 0)[1].clear()
        self.assertEqual(needed_patterns(two_goods()), [0, 1])
        self.assertEqual(gaps(shop_of((3,), (5,)), 0), (1, [1, 2, 4, 7]))


if __name__ == "__main__":
    unittest.main()
