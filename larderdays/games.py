"""Games: rules of buying and cutting against the orders that come, for ever."""

from larderdays.days import one_day
from larderdays.errors import Short
from larderdays.ranks import Search, hardest_steps, largest
from larderdays.shops import choice_counts, choices
from larderdays.steps import Steps, states_from


def next_state(shop, state, choice, order):
    """Return the state behind a day, or None if the order cannot be met; raise BadChoice."""
    day, stock = state
    try:
        morning, _ = one_day(shop, stock, choice, order)
    except Short:
        return None
    return ((day + 1) % len(shop.week), morning)


def gains_of(shop):
    """Return what the choices give, each tuple of counts once, in the order of the choices."""
    return list({choice_counts(shop, choice): True for choice in choices(shop)})


def reached(shop, stock, day):
    """Return the list of the states that days lead to from a state on, in the order in which they are met."""
    return states_from(Steps(shop.week), gains_of(shop), (day, stock))


def days_to_beat(shop, stock, day):
    """Return the rank of a state, or None if it is safe."""
    # More pieces make a better stock, so no other gain is beaten later than the largest ones.
    steps = hardest_steps(shop)
    gains = largest(gains_of(shop))
    states = states_from(steps, gains, (day, stock))
    return Search(steps, gains, states).ranks()[(day, stock)]


def rule_choice(shop, stock, day):
    """Return the rule's choice at a state."""
    return Game(shop, stock, day).told_choice((day, stock))


class Game:
    """The states that a state leads to, with their ranks, and how the rule and the orders play."""

    def __init__(self, shop, stock, day):
        self.choices = choices(shop)
        self.states = reached(shop, stock, day)
        self.rank = Search(hardest_steps(shop), largest(gains_of(shop)), self.states).ranks()
        self._week = [list(orders) for orders in shop.week]
        self._gains = [choice_counts(shop, choice) for choice in self.choices]
        self._steps = Steps(shop.week)

    def told_choice(self, state):
        """Return the rule's choice at a state."""
        # The greatest worth is the state's rank, and at a safe state both are None.
        for place, choice in enumerate(self.choices):
            if self._worth(state, place) == self.rank[state]:
                return choice
        return None

    def told_order(self, state, place):
        """Return the first order that beats the choice at a place as soon as can be, or None if none beats it."""
        worth = self._worth(state, place)
        if worth is None:
            return None
        return self._week[state[0]][self._days(state, place).index(worth)]

    def _worth(self, state, place):
        """Return within how many days some order beats the choice at a place, or None."""
        return min([days for days in self._days(state, place) if days is not None], default=None)

    def _days(self, state, place):
        """Return for each order of the day within how many days it beats the choice at a place, or None."""
        return [self._days_from(after) for after in self._steps.behind_orders(state, self._gains[place])]

    def _days_from(self, after):
        """Return within how many days an order beats that leads to a state, or to None if it cannot be met."""
        if after is None:
            return 1
        rank = self.rank[after]
        return None if rank is None else rank + 1
