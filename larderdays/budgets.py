"""Budgets: with how much a day a rule never fails."""

from larderdays.games import days_to_beat
from larderdays.shops import Shop, choice_cost, choices


def within(shop, budget):
    """Return the shop with this budget in place of its own, or without one."""
    return Shop(shop.keep, shop.patterns, shop.most, shop.week, budget)


def least_budget(shop, stock, day):
    """Return the least of the costs of the choices that as a budget leaves a state safe, or None."""
    if days_to_beat(shop, stock, day) is not None:
        return None
    costs = sorted({choice_cost(shop, choice) for choice in choices(shop)})
    # With the greatest cost as a budget all choices are left; and a greater budget never does harm.
    low = 0
    high = len(costs) - 1
    while low < high:
        middle = (low + high) // 2
        if days_to_beat(within(shop, costs[middle]), stock, day) is None:
            high = middle
        else:
            low = middle + 1
    return costs[low]
