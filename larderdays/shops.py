"""Shops: goods, patterns, the orders of a week, and choices."""

MOST_GOODS = 4
MOST_KEEP = 4
MOST_PATTERNS = 8
MOST_COST = 1000
MOST_CUT = 9
MOST_SIDES = 6
MOST_DAYS = 4
MOST_ORDERS = 8
MOST_ORDERED = 20


class Shop:
    """What a shop can buy and cut, and which orders can come on each day of its week."""

    def __init__(self, keep, patterns, most, week, budget=None):
        self.keep = list(keep)
        self.patterns = [(cost, tuple(counts)) for cost, counts in patterns]
        self.most = most
        self.week = [[tuple(order) for order in orders] for orders in week]
        self.budget = budget


def is_shop(shop):
    """Return whether a shop keeps all bounds."""
    goods = len(shop.keep)
    return (
        is_keep(shop.keep)
        and 1 <= len(shop.patterns) <= MOST_PATTERNS
        and all(is_pattern(pattern, goods) for pattern in shop.patterns)
        and 1 <= shop.most <= MOST_SIDES
        and 1 <= len(shop.week) <= MOST_DAYS
        and all(is_day(orders, goods) for orders in shop.week)
        and (shop.budget is None or shop.budget >= 0)
    )


def is_keep(keep):
    """Return whether goods can keep these days."""
    return 1 <= len(keep) <= MOST_GOODS and all(1 <= days <= MOST_KEEP for days in keep)


def is_pattern(pattern, goods):
    """Return whether a tuple (cost, counts) is a pattern for so many goods."""
    cost, counts = pattern
    return 0 <= cost <= MOST_COST and are_counts(counts, goods, MOST_CUT)


def is_day(orders, goods):
    """Return whether a list has the orders of a day, for so many goods."""
    return (
        1 <= len(orders) <= MOST_ORDERS
        and len(set(orders)) == len(orders)
        and all(are_counts(order, goods, MOST_ORDERED) for order in orders)
    )


def are_counts(counts, length, most):
    """Return whether there are so many counts, each from 0 to the most."""
    return len(counts) == length and all(0 <= count <= most for count in counts)


def rows_of(length, most):
    """Return all tuples of so many numbers from 0 on with a sum of at most so much, ascending."""
    rows = [()]
    for _ in range(length):
        rows = [row + (count,) for row in rows for count in range(most - sum(row) + 1)]
    return rows


def is_choice(shop, choice):
    """Return whether a tuple of numbers is a choice of the shop."""
    counted = are_counts(choice, len(shop.patterns), shop.most)
    return counted and sum(choice) <= shop.most and is_paid(shop, choice)


def is_paid(shop, choice):
    """Return whether the budget, if there is one, is enough for the sides of a choice."""
    return shop.budget is None or choice_cost(shop, choice) <= shop.budget


def choices(shop):
    """Return the list of all choices, ascending."""
    return [row for row in rows_of(len(shop.patterns), shop.most) if is_paid(shop, row)]


def choice_cost(shop, choice):
    """Return the sum of the costs of the sides of a choice."""
    return sum(sides * pattern[0] for sides, pattern in zip(choice, shop.patterns))


def choice_counts(shop, choice):
    """Return the tuple of the pieces of each good that a choice gives."""
    totals = [0] * len(shop.keep)
    for sides, (_, counts) in zip(choice, shop.patterns):
        for good, count in enumerate(counts):
            totals[good] += sides * count
    return tuple(totals)
