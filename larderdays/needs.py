"""Needs: which pieces the orders to come can still take, and days on which no others are kept."""

from larderdays.steps import row_behind


def needs_from(orders, day, good, most):
    """Return how many pieces of a good are ordered on one day, two days and so on, up to the most, from a day on."""
    return [sum(order[good] for order in orders[day:day + days]) for days in range(1, most + 1)]


def trimmed_row(row, needs):
    """Return a good's counts without the pieces beyond what can be taken of those with so few days left."""
    kept = []
    total = 0
    for pieces, need in zip(row, needs):
        stay = min(pieces, need - total)
        total += stay
        kept.append(stay)
    return tuple(kept)


class Needs:
    """Days with known orders, on which pieces that no order can take are put aside.

    Of the pieces with at most so many days left no more can be taken than is ordered on these days. Oldest first
    takes as many pieces as any way does, so those beyond that number are left over whichever they are: without
    them the same orders can be met, and as many pieces spoil in all. Many stocks become one by this.
    """

    def __init__(self, keep, orders):
        self._orders = list(orders)
        # For each day a row for each good.
        self._needs = [
            [needs_from(orders, day, good, most) for good, most in enumerate(keep)] for day in range(len(orders))
        ]
        self._known = {}

    def trimmed(self, day, stock):
        """Return the stock of a morning without the pieces that no order can take."""
        return tuple([trimmed_row(row, needs) for row, needs in zip(stock, self._needs[day])])

    def useful(self, day, gain):
        """Return the pieces of each good that are gained on a day, without those that no order can take."""
        return tuple([min(count, needs[-1]) for count, needs in zip(gain, self._needs[day])])

    def behind(self, day, stock, gain):
        """Return a tuple: the stock behind a day, and how many of the pieces put aside on it spoil on these days.

        None if the order of the day cannot be met.
        """
        rows = []
        wasted = 0
        for good, (row, count) in enumerate(zip(stock, gain)):
            key = (day, good, row, count)
            if key not in self._known:
                self._known[key] = self._row_behind(day, good, row, count)
            found = self._known[key]
            if found is None:
                return None
            rows.append(found[0])
            wasted += found[1]
        return tuple(rows), wasted

    def _row_behind(self, day, good, row, count):
        """Return what behind returns, for the counts of one good."""
        cut = row[:-1] + (row[-1] + count,)
        kept = trimmed_row(cut, self._needs[day][good])
        behind = row_behind(kept, 0, self._orders[day][good])
        if behind is None:
            return None
        # What keeps beyond the last day does not spoil on these days.
        spoiling = len(self._orders) - day
        return behind, sum(cut[:spoiling]) - sum(kept[:spoiling])
