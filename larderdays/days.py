"""Days: cutting by a choice, issuing an order, and the night."""

from larderdays.stocks import fresh, issue, overnight


def one_day(shop, stock, choice, order):
    """Return a tuple: the stock of the next morning, and what spoiled; raise BadChoice, then Short."""
    return overnight(issue(fresh(shop, stock, choice), order))


def run(shop, stock, plan, orders):
    """Return for each day the tuple (choice, order, stock of the next morning, what spoiled)."""
    days = []
    for choice, order in zip(plan, orders):
        stock, spoiled = one_day(shop, stock, choice, order)
        days.append((choice, order, stock, spoiled))
    return days


def total_spoiled(days):
    """Return how many pieces spoiled on all days of a run."""
    return sum([sum(spoiled) for _, _, _, spoiled in days])
