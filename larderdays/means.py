"""Means: what a day of the cheapest long run costs when the same orders come again and again."""

from larderdays.days import one_day
from larderdays.moves import Round, best_moves
from larderdays.needs import Needs
from larderdays.rings import least_ring
from larderdays.shops import choice_cost, choice_counts, choices
from larderdays.stocks import is_stock


class LeanGraph:
    """The graph of the states that some states lead to, all without the pieces that no order can take.

    Without those pieces the same choices meet the orders to come, so the same means can be had from a state on.
    """

    def __init__(self, shop, orders, states):
        # The orders so often that behind each day of the first round those of all days that a good keeps come.
        self._needs = Needs(shop.keep, list(orders) * (2 + max(shop.keep) // len(orders)))
        self._moves = [chosen_moves(shop, self._needs, place) for place in range(len(orders))]
        self._states = []
        self._nodes = {}
        # For each node the node and the choice by which it was met first, None for those that were given.
        self._origins = []
        self.links = []
        for state in states:
            self._meet(self._trimmed(state), None)
        while len(self.links) < len(self._states):
            self.links.append(self._links_from(len(self.links)))

    def node_of(self, state):
        """Return the node of a state that the graph was made from."""
        return self._nodes[self._trimmed(state)]

    def way_to(self, node):
        """Return the choices that lead to a node from one of the states that the graph was made from."""
        way = []
        while self._origins[node] is not None:
            node, choice = self._origins[node]
            way.append(choice)
        return way[::-1]

    def _trimmed(self, state):
        """Return a state without the pieces that no order can take."""
        place, stock = state
        return (place, self._needs.trimmed(place, stock))

    def _meet(self, state, origin):
        """Return the node of a state, a new one if it was not met before."""
        if state not in self._nodes:
            self._nodes[state] = len(self._states)
            self._states.append(state)
            self._origins.append(origin)
        return self._nodes[state]

    def _links_from(self, node):
        """Return the links from a node, to each other node the one with the least cost."""
        place, stock = self._states[node]
        found = {}
        for gain, cost, choice in self._moves[place]:
            behind = self._needs.behind(place, stock, gain)
            if behind is not None:
                after = self._meet(((place + 1) % len(self._moves), behind[0]), (node, choice))
                if after not in found or cost < found[after][1]:
                    found[after] = (after, cost, choice)
        return list(found.values())


def chosen_moves(shop, needs, place):
    """Return tuples (gain, cost, choice): the best moves of a day, and for each the first choice that makes it."""
    found = {}
    for choice in choices(shop):
        move = (needs.useful(place, choice_counts(shop, choice)), choice_cost(shop, choice))
        found.setdefault(move, choice)
    return [(gain, cost, found[(gain, cost)]) for gain, cost in best_moves(list(found), needs, place)]


def least_mean(shop, stock, orders):
    """Return the least mean from a stock on, or None if the orders cannot be met for ever."""
    found = least_ring(LeanGraph(shop, orders, [(0, stock)]).links)
    return None if found is None else found[0]


def ring(shop, stock, orders):
    """Return a tuple: the choices of the days ahead, and those of a ring that has the least mean; or None."""
    graph = LeanGraph(shop, orders, [(0, stock)])
    found = least_ring(graph.links)
    if found is None:
        return None
    links = found[1]
    ahead = graph.way_to(links[-1][0])
    around = [choice for _, _, choice in links]
    # A ring of stocks without some pieces: with all pieces it may take some times round to come to a stock again.
    stock = stock_behind(shop, stock, orders, 0, ahead)
    met = {}
    while stock not in met:
        met[stock] = len(met)
        stock = stock_behind(shop, stock, orders, len(ahead), around)
    return ahead + around * met[stock], around * (len(met) - met[stock])


def stock_behind(shop, stock, orders, day, plan):
    """Return the stock behind a plan that begins with so many days gone by."""
    for choice in plan:
        stock, _ = one_day(shop, stock, choice, orders[day % len(orders)])
        day += 1
    return stock


def mean_paper(shop, stock, orders):
    """Return a mean paper that shows the least mean, ascending, or None if there is none."""
    states = sorted(Round(shop, orders).reached_from((0, stock)))
    graph = LeanGraph(shop, orders, states)
    found = least_ring(graph.links)
    if found is None:
        return None
    heights = found[2]
    return [(state, heights[graph.node_of(state)]) for state in states]


def verify_mean(shop, stock, orders, mean, paper):
    """Return whether a paper shows that no mean from a stock on is less than a fraction."""
    numbers = {state: number for state, number in paper}
    days = Round(shop, orders)
    return (0, stock) in numbers and all(is_kept(shop, days, numbers, state, mean) for state in numbers)


def is_kept(shop, days, numbers, state, mean):
    """Return whether a state of a paper is one, and keeps its rule for each choice."""
    place, stock = state
    if not 0 <= place < days.many or not is_stock(shop, stock):
        return False
    numerator, denominator = mean
    return all(
        after in numbers and numbers[state] <= numbers[after] + cost * denominator - numerator
        for cost, after in days.behind(state)
    )
