"""What the document says, worked out piece by piece and case by case, by nothing of the package but Shop."""

import itertools
import random

from larderdays.shops import Shop


def all_choices(shop):
    """[4]."""
    rows = itertools.product(range(shop.most + 1), repeat=len(shop.patterns))
    return [row for row in rows if sum(row) <= shop.most and is_paid(shop, row)]


def is_paid(shop, row):
    return shop.budget is None or cost_of(shop, row) <= shop.budget


def cost_of(shop, row):
    return sum(sides * cost for sides, (cost, _) in zip(row, shop.patterns))


def behind(shop, state, choice, order):
    """[11]: the state behind a day and what spoiled, piece by piece; None if the order cannot be met."""
    day, stock = state
    rows, spoiled = [], []
    for good, row in enumerate(stock):
        pieces = [place for place, count in enumerate(row) for _ in range(count)]
        for sides, (_, counts) in zip(choice, shop.patterns):
            pieces += [len(row) - 1] * (sides * counts[good])
        if len(pieces) < order[good]:
            return None
        left = pieces[order[good]:]
        spoiled.append(left.count(0))
        rows.append(tuple(left.count(place + 1) for place in range(len(row))))
    return ((day + 1) % len(shop.week), tuple(rows)), tuple(spoiled)


def after(shop, state, choice, order):
    found = behind(shop, state, choice, order)
    return None if found is None else found[0]


def all_reached(shop, first):
    """[12], state by state, choices ascending, orders as in the list of the day."""
    states = [first]
    for state in states:
        for choice in all_choices(shop):
            for order in shop.week[state[0]]:
                found = after(shop, state, choice, order)
                if found is not None and found not in states:
                    states.append(found)
    return states


class Judge:
    """[12] to [15], straight from their words; a state that is not beaten within many days is safe."""

    def __init__(self, shop, many):
        self.shop = shop
        self.many = many
        self.known = {}

    def is_beaten(self, state, days):
        """Whether orders beat every rule within so many days."""
        if days == 0:
            return False
        if (state, days) not in self.known:
            self.known[state, days] = all(
                any(self.beats(state, choice, order, days) for order in self.shop.week[state[0]])
                for choice in all_choices(self.shop)
            )
        return self.known[state, days]

    def beats(self, state, choice, order, days):
        """Whether an order beats a choice within so many days."""
        found = after(self.shop, state, choice, order)
        return found is None or self.is_beaten(found, days - 1)

    def rank(self, state):
        return next((days for days in range(1, self.many + 1) if self.is_beaten(state, days)), None)

    def worth(self, state, choice):
        orders = self.shop.week[state[0]]
        found = [days for days in range(1, self.many + 2)
                 if any(self.beats(state, choice, order, days) for order in orders)]
        return found[0] if found else None

    def told_choice(self, state):
        worths = {choice: self.worth(state, choice) for choice in all_choices(self.shop)}
        if None in worths.values():
            return next(choice for choice, worth in worths.items() if worth is None)
        return next(choice for choice, worth in worths.items() if worth == max(worths.values()))

    def told_order(self, state, choice):
        worth = self.worth(state, choice)
        if worth is None:
            return None
        return next(order for order in self.shop.week[state[0]] if self.beats(state, choice, order, worth))


def has_better(one, other):
    """[10]."""
    return all(
        sum(row[days:]) >= sum(other_row[days:])
        for row, other_row in zip(one, other)
        for days in range(len(row))
    )


def is_state(shop, state):
    day, stock = state
    return (
        day in range(len(shop.week))
        and len(stock) == len(shop.keep)
        and all(len(row) == days and min(row) >= 0 for row, days in zip(stock, shop.keep))
    )


def shows_safe(shop, stock, day, paper):
    """[16], row by row."""
    states = [state for state, _ in paper]
    if any(not is_state(shop, state) or states.count(state) > 1 for state in states):
        return False

    def is_there(state):
        return any(state[0] == other[0] and has_better(state[1], other[1]) for other in states)

    for state, choice in paper:
        if choice not in all_choices(shop):
            return False
        for order in shop.week[state[0]]:
            found = after(shop, state, choice, order)
            if found is None or not is_there(found):
                return False
    return is_there((day, stock))


def shows_beaten(shop, stock, day, paper, days):
    """[17], row by row."""
    states = [state for state, _, _ in paper]
    if any(not is_state(shop, state) or states.count(state) > 1 for state in states):
        return False

    def is_there(state, most):
        return any(
            state[0] == other[0] and rank <= most and has_better(other[1], state[1]) for other, rank, _ in paper
        )

    for state, rank, orders in paper:
        if rank < 1 or len(orders) != len(all_choices(shop)):
            return False
        for choice, order in zip(all_choices(shop), orders):
            if order not in shop.week[state[0]]:
                return False
            found = after(shop, state, choice, order)
            if found is not None and not is_there(found, rank - 1):
                return False
    return is_there((day, stock), days)


def any_shop(chance):
    """Some small shop."""
    keep = [chance.randint(1, 3) for _ in range(chance.choice([1, 1, 2]))]
    largest = 3 if len(keep) == 1 else 2
    patterns = [
        (chance.randint(0, 4), tuple(chance.randint(0, largest) for _ in keep)) for _ in range(chance.randint(1, 3))
    ]
    possible = list(itertools.product(range(largest + 2), repeat=len(keep)))
    week = [chance.sample(possible, chance.randint(1, 3)) for _ in range(chance.randint(1, 3))]
    budget = chance.choice([None, None, chance.randint(0, 9)])
    return Shop(keep, patterns, chance.randint(1, 2), week, budget)


def any_stock(chance, shop):
    """Some stock: empty, with pieces ahead of the last places, or also at the last places."""
    form = chance.choice(["empty", "usual", "full"])
    if form == "empty":
        return tuple((0,) * days for days in shop.keep)
    last = chance.randint(1, 2) if form == "full" else 0
    return tuple(tuple(chance.randint(0, 2) for _ in range(days - 1)) + (last,) for days in shop.keep)


def cases(many, seed=1, least=4, most=50):
    """So many tuples (shop, stock, day), always the same ones, that reach a number of states in these bounds."""
    chance = random.Random(seed)
    found = []
    while len(found) < many:
        shop = any_shop(chance)
        stock = any_stock(chance, shop)
        day = chance.randrange(len(shop.week))
        if least <= len(some_reached(shop, (day, stock), most)) <= most:
            found.append((shop, stock, day))
    return found


def some_reached(shop, first, most):
    """The reached states, or more than so many of them."""
    states = {first: True}
    waiting = [first]
    while waiting and len(states) <= most:
        state = waiting.pop()
        for choice in all_choices(shop):
            for order in shop.week[state[0]]:
                found = after(shop, state, choice, order)
                if found is not None and found not in states:
                    states[found] = True
                    waiting.append(found)
    return states
