"""Shares: what several customers that order for the same days pay of the cost."""

from itertools import combinations, permutations

from larderdays.outlooks import cost_outlook
from larderdays.rationals import added, divided, is_less
from larderdays.stocks import empty_stock

WHOLE = (1, 1)
HALF = (1, 2)


def groups(many):
    """Return all groups of so many customers, the smaller ones first, those of the same size ascending."""
    return [group for size in range(1, many + 1) for group in combinations(range(many), size)]


def group_costs(shop, orders):
    """Return the dict from groups to the least costs of their orders together, None where there is no plan."""
    return {group: least_cost(shop, orders_of(orders, group)) for group in groups(len(orders))}


def orders_of(orders, group):
    """Return the sums of the orders of a group, day by day."""
    rows = [orders[customer] for customer in group]
    return [tuple([sum(counts) for counts in zip(*day)]) for day in zip(*rows)]


def least_cost(shop, orders):
    """Return the least cost of a plan from no stock on, or None if there is no plan."""
    return cost_outlook(shop, orders).least(0, empty_stock(shop))


def cost_of(costs, group):
    """Return the cost of a group; nobody costs 0."""
    return costs[group] if group else 0


def even_shares(costs, many):
    """Return the even shares of so many customers, fractions."""
    totals = [0] * many
    ways = 0
    for way in permutations(range(many)):
        ways += 1
        for place, customer in enumerate(way):
            before = tuple(sorted(way[:place]))
            after = tuple(sorted(way[:place + 1]))
            totals[customer] += cost_of(costs, after) - cost_of(costs, before)
    return [divided(total, ways) for total in totals]


def sum_of(fractions):
    """Return the sum of fractions."""
    total = (0, 1)
    for fraction in fractions:
        total = added(total, fraction)
    return total


def is_stable(costs, many, shares):
    """Return whether fractions are stable shares."""
    if len(shares) != many or sum_of(shares) != (costs[tuple(range(many))], 1):
        return False
    return not any(
        is_less((costs[group], 1), sum_of([shares[customer] for customer in group])) for group in groups(many)
    )


def balanced_rows(many):
    """Return the balanced rows of so many customers, up to three."""
    rows = [[((customer,), WHOLE) for customer in range(many)]]
    if many == 3:
        for customer in range(many):
            others = tuple([other for other in range(many) if other != customer])
            rows.append([((customer,), WHOLE), (others, WHOLE)])
        rows.append([(pair, HALF) for pair in combinations(range(many), 2)])
    return rows


def row_cost(costs, row):
    """Return the sum of the costs of the groups of a balanced row times their weights."""
    return sum_of([divided(costs[group] * weight[0], weight[1]) for group, weight in row])


def unstable_paper(costs, many):
    """Return the first balanced row that costs less than all together, or None."""
    whole = (costs[tuple(range(many))], 1)
    for row in balanced_rows(many):
        if is_less(row_cost(costs, row), whole):
            return row
    return None


def stable_shares(costs, many):
    """Return the stable shares in which the first customer pays the least, then the second one, and so on; or None.

    For up to three customers.
    """
    if unstable_paper(costs, many) is not None:
        return None
    shares = []
    left = tuple(range(many))
    while left:
        first, rest = left[0], left[1:]
        # Up to two others pay together as much as they may as one group or each alone, whichever is less.
        most = min(cost_of(costs, rest), sum(costs[(customer,)] for customer in rest))
        share = costs[left] - most
        shares.append((share, 1))
        costs = costs_behind(costs, rest, first, share)
        left = rest
    return shares


def costs_behind(costs, rest, first, share):
    """Return the dict of what groups of the rest may pay when the first customer pays a share."""
    found = {}
    for size in range(1, len(rest) + 1):
        for group in combinations(list(rest), size):
            joined = (first, *group)
            most = costs[joined] - share
            found[group] = most if group == rest else min(costs[group], most)
    return found
