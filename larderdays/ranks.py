"""Ranks: within how many days orders beat every rule."""

from larderdays.steps import Steps


def largest(rows):
    """Return those of the rows that have not at most as much at each place as another one, each once."""
    kept = []
    # Whatever has at least as much at each place stands ahead in this order.
    for row in sorted(rows, reverse=True):
        if not any(is_at_most(row, other) for other in kept):
            kept.append(row)
    return kept


def is_at_most(row, other):
    """Return whether a row has at most as much at each place as another one."""
    return all(count <= more for count, more in zip(row, other))


def hardest_steps(shop):
    """Return the steps of the shop's week with the largest orders only, which are enough to tell ranks."""
    # A larger order leaves a stock that the other one's is better than, so no other order beats sooner.
    return Steps([largest(orders) for orders in shop.week])


class Search:
    """The search for the ranks of states from which days lead to none but these.

    A chance is a gain at a state; chances are numbered state by state. It is beaten when some order is known to
    beat it, and a state is lost when all its chances are beaten.
    """

    def __init__(self, steps, gains, states):
        self._steps = steps
        self._gains = list(gains)
        self._states = list(states)
        self._beaten = [False] * (len(gains) * len(states))
        self._left = [len(gains)] * len(states)
        # For each state the chances from which an order leads to it.
        self._leads = [[] for _ in states]

    def ranks(self):
        """Return the dict from the states to their ranks, None for safe ones."""
        found = {state: None for state in self._states}
        lost = self._lost_at_once()
        days = 1
        while lost:
            for at in lost:
                found[self._states[at]] = days
            lost = self._lost_behind(lost)
            days += 1
        return found

    def _beat(self, chance):
        """Note that an order beats a chance; return whether its state is lost by this."""
        if self._beaten[chance]:
            return False
        self._beaten[chance] = True
        at = chance // len(self._gains)
        self._left[at] -= 1
        return self._left[at] == 0

    def _lost_at_once(self):
        """Return the states that are beaten within 1 day; note what the other chances lead to."""
        numbers = {state: at for at, state in enumerate(self._states)}
        lost = []
        chance = 0
        for at, state in enumerate(self._states):
            for gain in self._gains:
                behind = self._steps.behind_orders(state, gain)
                if None not in behind:
                    for after in behind:
                        self._leads[numbers[after]].append(chance)
                elif self._beat(chance):
                    lost.append(at)
                chance += 1
        return lost

    def _lost_behind(self, lost):
        """Return the states of which lost ones beat the last chance."""
        found = []
        for at in lost:
            for chance in self._leads[at]:
                if self._beat(chance):
                    found.append(chance // len(self._gains))
        return found
