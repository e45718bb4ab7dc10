"""Bounds: prices of goods that show how much each plan costs at least."""


def worth(prices, day, good, days):
    """Return the greatest of the prices of a good over so many days from a day on, at least 0."""
    return max([0] + [row[good] for row in prices[day:day + days]])


def are_prices(shop, orders, prices):
    """Return whether prices are right."""
    if len(prices) != len(orders) or not all(is_price_row(shop, row) for row in prices):
        return False
    return all(room >= 0 for day in range(len(prices)) for room in rooms(shop, prices, day))


def is_price_row(shop, row):
    """Return whether a row has a number of at least 0 for each good."""
    return len(row) == len(shop.keep) and all(price >= 0 for price in row)


def rooms(shop, prices, day):
    """Return for each pattern by how much its cost is more than what it gives is worth on a day."""
    worths = [worth(prices, day, good, days) for good, days in enumerate(shop.keep)]
    return [cost - sum(count * each for count, each in zip(counts, worths)) for cost, counts in shop.patterns]


def price_bound(shop, stock, orders, prices):
    """Return the bound of prices for a stock and orders, or None if they are not right."""
    if not are_prices(shop, orders, prices):
        return None
    ordered = sum(count * price for order, row in zip(orders, prices) for count, price in zip(order, row))
    return ordered - stock_worth(prices, stock)


def stock_worth(prices, stock):
    """Return the worth on the first day of all pieces of a stock over the days that are left to them."""
    return sum(
        count * worth(prices, 0, good, place + 1) for good, row in enumerate(stock) for place, count in enumerate(row)
    )


def simple_prices(shop, orders):
    """Return the prices that are, day by day and good by good, as great as they can be."""
    prices = [[0] * len(shop.keep) for _ in orders]
    for day in range(len(orders)):
        for good in range(len(shop.keep)):
            prices[day][good] = greatest_price(shop, prices, day, good)
    return prices


def greatest_price(shop, prices, day, good):
    """Return the greatest price of a good on a day with which prices stay right, 0 if no pattern gives it."""
    found = []
    # The price counts for what is cut on this day or on as many days ahead of it as the good keeps.
    for cut_day in range(max(0, day - shop.keep[good] + 1), day + 1):
        before = worth(prices, cut_day, good, shop.keep[good])
        for room, (_, counts) in zip(rooms(shop, prices, cut_day), shop.patterns):
            if counts[good] > 0:
                found.append(before + room // counts[good])
    return min(found, default=0)
