"""Stocks: pieces of each good by the days that are left to them."""

from larderdays.errors import BadChoice, Short
from larderdays.shops import choice_counts, is_choice


def empty_stock(shop):
    """Return the stock without pieces."""
    return tuple([(0,) * days for days in shop.keep])


def is_stock(shop, stock):
    """Return whether a tuple of tuples of numbers is a stock of the shop."""
    return [len(row) for row in stock] == shop.keep and all(count >= 0 for row in stock for count in row)


def amounts(stock):
    """Return the tuple of the pieces of each good."""
    return tuple([sum(row) for row in stock])


def fresh(shop, stock, choice):
    """Return the stock with what a choice gives; raise BadChoice."""
    if not is_choice(shop, choice):
        raise BadChoice()
    return tuple([row[:-1] + (row[-1] + count,) for row, count in zip(stock, choice_counts(shop, choice))])


def check_enough(stock, order):
    """Raise Short with the first good of which there is too little for an order."""
    for good, (row, count) in enumerate(zip(stock, order)):
        if sum(row) < count:
            raise Short(good)


def issue(stock, order):
    """Return the stock behind issuing an order oldest first; raise Short."""
    check_enough(stock, order)
    return tuple([oldest_taken(row, count) for row, count in zip(stock, order)])


def oldest_taken(row, count):
    """Return the counts of a good when so many pieces are taken, those with the fewest days left first."""
    left = []
    for pieces in row:
        taken = min(pieces, count)
        left.append(pieces - taken)
        count -= taken
    return tuple(left)


def issues(stock, order):
    """Return the stocks behind all ways of issuing an order, ascending; raise Short."""
    check_enough(stock, order)
    stocks = [()]
    for row, count in zip(stock, order):
        ways = all_taken(row, count)
        stocks = [rows + (left,) for rows in stocks for left in ways]
    return stocks


def all_taken(row, count):
    """Return all counts of a good when so many pieces are taken, ascending, each once."""
    remaining = sum(row) - count
    behind = sum(row)
    ways = [()]
    for pieces in row:
        behind -= pieces
        # At least as many stay here as do not fit behind, so that each way can be ended.
        ways = [
            way + (stay,)
            for way in ways
            for stay in range(max(0, remaining - sum(way) - behind), min(pieces, remaining - sum(way)) + 1)
        ]
    return ways


def overnight(stock):
    """Return a tuple: the stock of the next morning, and how many pieces of each good spoiled."""
    return tuple([row[1:] + (0,) for row in stock]), tuple([row[0] for row in stock])


def is_better(one, other):
    """Return whether the first stock is better than the second one, or the same."""
    return all(is_better_row(row, other_row) for row, other_row in zip(one, other))


def is_better_row(row, other):
    """Return whether a good's counts have, for each number of days, at least as many with so many left."""
    ahead = 0
    for pieces, other_pieces in zip(row[::-1], other[::-1]):
        ahead += pieces - other_pieces
        if ahead < 0:
            return False
    return True
