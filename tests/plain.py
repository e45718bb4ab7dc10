"""What the document says of plans, prices and the long run, worked out case by case by nothing of the package."""

import random
from fractions import Fraction

from larderdays.shops import Shop
from tests.brute import all_choices, any_shop, any_stock, behind, cost_of, is_state


def known_cases(many, seed=1, least=0, most=3, plans=300):
    """So many tuples (shop, stock, orders), always the same ones, with a number of orders in these bounds."""
    chance = random.Random(seed)
    found = []
    while len(found) < many:
        shop = any_shop(chance)
        shop = Shop([chance.randint(1, 4) for _ in shop.keep], shop.patterns, shop.most, shop.week, shop.budget)
        days = chance.randint(least, most)
        largest = chance.choice([1, 2, 4])
        orders = [tuple(chance.randint(0, largest) for _ in shop.keep) for _ in range(days)]
        if len(all_choices(shop)) ** days <= plans:
            found.append((shop, any_stock(chance, shop), orders))
    return found


def with_row(shop, orders):
    """The shop with a week of these orders, one a day."""
    return Shop(shop.keep, shop.patterns, shop.most, [[order] for order in orders] or [[]], shop.budget)


def all_plans(shop, stock, orders):
    """[19]: all plans in their order, with their costs, their waste, and the stocks behind their days."""
    found = [((), 0, 0, (stock,))]
    for order in orders:
        longer = []
        for plan, cost, waste, stocks in found:
            for choice in all_choices(shop):
                met = behind(shop, (0, stocks[-1]), choice, order)
                if met is not None:
                    longer.append((
                        plan + (choice,), cost + cost_of(shop, choice), waste + sum(met[1]), stocks + (met[0][1],)
                    ))
        found = longer
    return found


def best_plan(shop, stock, orders, at):
    """The least cost (at 1) or waste (at 2), and the first plan that has it."""
    plans = all_plans(shop, stock, orders)
    if not plans:
        return None
    least = min(row[at] for row in plans)
    return least, list(next(row[0] for row in plans if row[at] == least))


def stocks_met(shop, stock, orders):
    return [sorted({row[3][-1] for row in all_plans(shop, stock, orders[:days])}) for days in range(len(orders) + 1)]


def shown_plan_paper(shop, stock, orders):
    """[20], the paper."""
    return [
        ((days, each), (best_plan(shop, each, orders[days:], 1) or (None,))[0])
        for days, stocks in enumerate(stocks_met(shop, stock, orders))
        for each in stocks
    ]


def shows_bound(shop, stock, orders, bound, paper):
    """[20], row by row."""
    numbers = dict(paper)
    if (0, stock) not in numbers:
        return False
    if numbers[0, stock] is not None and (bound is None or numbers[0, stock] < bound):
        return False
    return all(spot_holds(shop, orders, numbers, spot) for spot in numbers)


def spot_holds(shop, orders, numbers, spot):
    (day, stock), number = spot, numbers[spot]
    if day > len(orders) or not is_state(shop, (0, stock)) or day < 0:
        return False
    if day == len(orders):
        return number is not None and number <= 0
    for choice in all_choices(shop):
        met = behind(shop, (0, stock), choice, orders[day])
        if met is not None:
            after = (day + 1, met[0][1])
            if after not in numbers:
                return False
            if numbers[after] is not None and (number is None or number > cost_of(shop, choice) + numbers[after]):
                return False
    return True


def row_graph(shop, stock, orders):
    """[23]: for each state that is come to, the list of (cost, next state)."""
    shop = with_row(shop, orders)
    graph = {}
    waiting = [(0, stock)]
    while waiting:
        state = waiting.pop()
        if state not in graph:
            graph[state] = []
            for choice in all_choices(shop):
                met = behind(shop, state, choice, orders[state[0]])
                if met is not None:
                    graph[state].append((cost_of(shop, choice), met[0]))
                    waiting.append(met[0])
    return graph


def small_rows(many, seed=1, most=60):
    """So many tuples (shop, stock, orders), with at least one order, from which few states are come to."""
    found = []
    for shop, stock, orders in known_cases(6 * many, seed, 1, 3, 10 ** 9):
        possible = sum(shop.keep) * max(max(counts) for _, counts in shop.patterns)
        if possible < 20 and len(row_graph(shop, stock, orders)) <= most:
            found.append((shop, stock, orders))
    return found[:many]


def mean_by_walks(shop, stock, orders):
    """[23]: the least mean by the least costs of walks of so many days (Karp's way), a Fraction or None."""
    graph = row_graph(shop, stock, orders)
    walks = [{state: 0 for state in graph}]
    for _ in graph:
        longer = {}
        for state, cost in walks[-1].items():
            for price, after in graph[state]:
                longer[after] = min(cost + price, longer.get(after, cost + price))
        walks.append(longer)
    means = [
        max(Fraction(cost - walks[days][state], len(graph) - days)
            for days in range(len(graph)) if state in walks[days])
        for state, cost in walks[-1].items()
    ]
    return min(means, default=None)


def shows_mean(shop, stock, orders, mean, paper):
    """[24], row by row."""
    numbers = dict(paper)
    if (0, stock) not in numbers:
        return False
    fraction = Fraction(*mean)
    shop = with_row(shop, orders)
    for state, number in numbers.items():
        if not is_state(shop, state):
            return False
        for choice in all_choices(shop):
            met = behind(shop, state, choice, orders[state[0]])
            if met is not None:
                if met[0] not in numbers:
                    return False
                step = (cost_of(shop, choice) - fraction) * fraction.denominator
                if number > numbers[met[0]] + step:
                    return False
    return True
