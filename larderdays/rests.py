"""Rests: which orders sides give exactly, and which choices give the least beyond an order."""

from larderdays.ranks import is_at_most
from larderdays.rationals import common_divisor
from larderdays.shops import choice_counts, choices


def exact_sides(shop, order):
    """Return the first tuple of the fewest sides, by patterns, that give an order exactly, or None."""
    return all_exact([counts for _, counts in shop.patterns], order).get(order)


def all_exact(rows, order):
    """Return the dict from what sides of these counts give, as far as it is in an order, to the sides that do.

    The sides are the first tuple of the fewest.
    """
    found = {(0,) * len(order): (0,) * len(rows)}
    for place, counts in enumerate(rows):
        if any(counts):
            for amounts in list(found):
                go_on(found, amounts, place, counts, order)
    return found


def go_on(found, amounts, place, counts, order):
    """Put into found what more and more sides of the counts at a place give with others, where it is better."""
    sides = found[amounts]
    while True:
        amounts = tuple([amount + count for amount, count in zip(amounts, counts)])
        sides = sides[:place] + (sides[place] + 1,) + sides[place + 1:]
        # Sides that were found to be better for these amounts are, or were, gone on from themselves.
        if not is_at_most(amounts, order) or not is_fewer(sides, found.get(amounts)):
            return
        found[amounts] = sides


def is_fewer(sides, other):
    """Return whether sides are fewer than others, or as many and ahead of them, or there are no others."""
    return other is None or (sum(sides), sides) < (sum(other), other)


def least_rest(shop, order):
    """Return a tuple: the fewest pieces beyond an order that a choice gives, and the first such choice; or None."""
    best = None
    for choice in choices(shop):
        counts = choice_counts(shop, choice)
        rest = sum(counts) - sum(order)
        if is_at_most(order, counts) and (best is None or rest < best[0]):
            best = (rest, choice)
    return best


def needed_patterns(shop):
    """Return the places of the needed patterns, ascending."""
    rows = [counts for _, counts in shop.patterns]
    return [place for place in range(len(rows)) if is_needed(rows, place)]


def is_needed(rows, place):
    """Return whether the pattern at a place of these counts is needed."""
    counts = rows[place]
    if not any(counts) or counts in rows[:place]:
        return False
    return counts not in all_exact([row for row in rows if row != counts], counts)


def gaps(shop, good):
    """Return a tuple: the common divisor of a good's counts, and its gaps; None if no pattern gives it."""
    given = [counts[good] for _, counts in shop.patterns if counts[good] > 0]
    if not given:
        return None
    divisor = 0
    for count in given:
        divisor = common_divisor(divisor, count)
    # There are no gaps from the product of the least and the greatest count on.
    most = min(given) * max(given)
    amounts = all_exact([(count,) for count in given], (most,))
    return divisor, [amount for amount in range(0, most, divisor) if (amount,) not in amounts]
