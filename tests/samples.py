"""Shops that several tests use."""

from larderdays.shops import Shop


def two_goods(budget=None):
    """Two goods that keep 2 days and 1 day, two patterns, at most 2 sides, a week of two days."""
    return Shop([2, 1], [(5, (1, 2)), (3, (0, 1))], 2, [[(1, 0), (0, 2)], [(1, 1)]], budget)


def three_goods(budget=None):
    """Three goods that keep 3, 1 and 2 days."""
    return Shop([3, 1, 2], [(4, (1, 0, 2)), (0, (0, 1, 0)), (6, (2, 1, 1))], 3, [[(1, 1, 1)]], budget)


def lean(budget=None):
    """One good that keeps 2 days, one piece for one side a day, and orders of none or two."""
    return Shop([2], [(1, (1,))], 1, [[(0,), (2,)]], budget)


def steady(budget=None):
    """One good that keeps 1 day, cut cheaply or in plenty, one order each day."""
    return Shop([1], [(2, (1,)), (3, (2,))], 2, [[(2,)]], budget)


def parts(shop):
    """The fields of a shop in one value that can be compared."""
    return (list(shop.keep), list(shop.patterns), shop.most, [list(day) for day in shop.week], shop.budget)
