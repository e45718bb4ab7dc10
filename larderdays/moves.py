"""Moves: what choices give for how much, and where this leads with known orders.

A move is a tuple (gain, cost): pieces of each good, and the least cost of a choice that gives them.
"""

from larderdays.ranks import largest
from larderdays.shops import choice_cost, choice_counts, choices
from larderdays.steps import Steps, states_from


def all_moves(shop):
    """Return the moves of a shop, those of the same gain once, in the order of the choices."""
    costs = {}
    for choice in choices(shop):
        gain = choice_counts(shop, choice)
        cost = choice_cost(shop, choice)
        costs[gain] = min(cost, costs.get(gain, cost))
    return list(costs.items())


def best_moves(moves, needs, day):
    """Return the moves of a day, as far as their gain is of use, less those that give no more for no less cost."""
    # With more pieces the days to come never cost more, so none of those left out is needed for a least cost.
    rows = [(-cost,) + needs.useful(day, gain) for gain, cost in moves]
    return [(row[1:], -row[0]) for row in largest(rows)]


class Round:
    """States with known orders of which the first one comes again behind the last one."""

    def __init__(self, shop, orders):
        self.many = len(orders)
        self._orders = list(orders)
        self._steps = Steps([[order] for order in orders])
        self._moves = all_moves(shop)

    def reached_from(self, first):
        """Return the states that choices lead to from one on, this one among them, as they are met."""
        return states_from(self._steps, [gain for gain, _ in self._moves], first)

    def behind(self, state):
        """Return the tuples (cost, next state) for all moves with which the order of the day is met."""
        order = self._orders[state[0]]
        found = [(cost, self._steps.behind(state, gain, order)) for gain, cost in self._moves]
        return [(cost, after) for cost, after in found if after is not None]
