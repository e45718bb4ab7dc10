"""Plans for known orders: the cheapest, those with the least waste, and papers that show a bound."""

from larderdays.moves import Round
from larderdays.outlooks import cost_outlook, waste_outlook
from larderdays.stocks import is_stock


def least_plan(shop, stock, orders):
    """Return a tuple: the least cost of a plan, and the first plan that has it; None if there is no plan."""
    return cost_outlook(shop, orders).plan(stock)


def least_waste(shop, stock, orders):
    """Return a tuple: the least waste of a plan, and the first plan that has it; None if there is no plan."""
    return waste_outlook(shop, orders).plan(stock)


def stocks_by_days(shop, stock, orders):
    """Return for each number of days gone by the ascending list of the stocks that choices lead to."""
    days = Round(shop, orders)
    found = [[stock]]
    for day in range(len(orders)):
        behind = {after: True for before in found[day] for _, (_, after) in days.behind((day, before))}
        found.append(sorted(behind))
    return found


def plan_paper(shop, stock, orders):
    """Return the plan paper of a stock and orders."""
    outlook = cost_outlook(shop, orders)
    return [
        ((day, each), outlook.least(day, each))
        for day, stocks in enumerate(stocks_by_days(shop, stock, orders))
        for each in stocks
    ]


def verify_plan_paper(shop, stock, orders, bound, paper):
    """Return whether a paper shows a bound."""
    numbers = {spot: number for spot, number in paper}
    if not is_shown(numbers, (0, stock), bound):
        return False
    days = Round(shop, orders)
    return all(holds(shop, days, numbers, spot, len(orders)) for spot in numbers)


def is_shown(numbers, spot, bound):
    """Return whether a spot is there with a number that is enough for a bound."""
    if spot not in numbers:
        return False
    number = numbers[spot]
    return number is None or (bound is not None and number >= bound)


def holds(shop, days, numbers, spot, many):
    """Return whether a spot of a paper for so many days holds."""
    day, stock = spot
    number = numbers[spot]
    if not 0 <= day <= many or not is_stock(shop, stock):
        return False
    if day == many:
        return number is not None and number <= 0
    behind = [(cost, (day + 1, after)) for cost, (_, after) in days.behind(spot)]
    if not all(after in numbers for _, after in behind):
        return False
    bounds = [cost + numbers[after] for cost, after in behind if numbers[after] is not None]
    return not bounds if number is None else number <= min(bounds, default=number)
