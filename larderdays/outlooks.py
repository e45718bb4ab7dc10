"""Outlooks: the least that the days to come cost or waste, and the first choices with which they do."""

from larderdays.moves import all_moves, best_moves
from larderdays.needs import Needs
from larderdays.shops import choice_cost, choice_counts, choices


def cost_outlook(shop, orders):
    """Return the outlook on what plans cost."""
    needs = Needs(shop.keep, orders)
    moves = all_moves(shop)
    rows = [(choice, choice_counts(shop, choice), choice_cost(shop, choice)) for choice in choices(shop)]
    return Outlook(needs, [best_moves(moves, needs, day) for day in range(len(orders))], rows, False)


def waste_outlook(shop, orders):
    """Return the outlook on how many pieces spoil."""
    moves = [(gain, 0) for gain, _ in all_moves(shop)]
    rows = [(choice, choice_counts(shop, choice), 0) for choice in choices(shop)]
    return Outlook(Needs(shop.keep, orders), [moves for _ in orders], rows, True)


class Outlook:
    """The least weights of the days from a spot on, a spot being so many days gone by and a stock.

    The weight of a day is its cost and, where waste counts, the pieces put aside on it that spoil. A least weight
    is found by the moves of each day; a plan is made of rows (choice, gain, cost).
    """

    def __init__(self, needs, moves, rows, wasting):
        self._needs = needs
        self._moves = list(moves)
        self._rows = list(rows)
        self._wasting = wasting
        self._known = [{} for _ in moves]

    def least(self, day, stock):
        """Return the least weight of the days from a spot on, or None if their orders cannot be met."""
        if day == len(self._moves):
            return 0
        if stock not in self._known[day]:
            self._learn(day, stock)
        return self._known[day][stock]

    def plan(self, stock):
        """Return a tuple: the least weight of all days, and the first plan that has it; None if there is none."""
        least = self.least(0, stock)
        if least is None:
            return None
        left = least
        plan = []
        for day in range(len(self._moves)):
            choice, weight, stock = self._first_day(day, stock, left)
            plan.append(choice)
            left -= weight
        return least, plan

    def _first_day(self, day, stock, left):
        """Return a tuple (choice, weight, stock behind) for the first choice with which this least weight is had."""
        for choice, gain, cost in self._rows:
            found = self._behind(day, stock, gain, cost)
            if found is not None and found[0] <= left and self.least(day + 1, found[1]) == left - found[0]:
                return (choice, *found)
        return None

    def _behind(self, day, stock, gain, cost):
        """Return a tuple: the weight of a day, and the stock behind it; None if its order cannot be met."""
        found = self._needs.behind(day, stock, gain)
        if found is None:
            return None
        behind, wasted = found
        return cost + (wasted if self._wasting else 0), behind

    def _learn(self, day, stock):
        """Work out the least weights of a spot and of all those that moves lead to from it."""
        layers = [[stock]]
        for at in range(day, len(self._moves) - 1):
            layers.append(self._unknown_behind(at, layers[-1]))
        # A spot's least weight follows from those of the spots behind the day, so the last day comes first.
        for ahead in reversed(range(len(layers))):
            for each in layers[ahead]:
                self._known[day + ahead][each] = self._least_of(day + ahead, each)

    def _unknown_behind(self, day, stocks):
        """Return the stocks behind a day that moves lead to, each once, as far as nothing is known of them."""
        found = {}
        for stock in stocks:
            for _, behind in self._days_from(day, stock):
                if behind not in self._known[day + 1]:
                    found[behind] = True
        return list(found)

    def _least_of(self, day, stock):
        """Return the least weight from a spot on, by those of the spots behind the day."""
        weights = []
        for weight, behind in self._days_from(day, stock):
            rest = self.least(day + 1, behind)
            if rest is not None:
                weights.append(weight + rest)
        return min(weights, default=None)

    def _days_from(self, day, stock):
        """Return the tuples (weight, stock behind) of a day with each of its moves that meets the order."""
        found = [self._behind(day, stock, gain, cost) for gain, cost in self._moves[day]]
        return [each for each in found if each is not None]
