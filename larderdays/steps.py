"""Steps: the states behind days, and states in the order in which they are met."""

from larderdays.stocks import oldest_taken


def row_behind(row, gain, count):
    """Return a good's counts in the next morning, or None if there are too few pieces to issue."""
    cut = row[:-1] + (row[-1] + gain,)
    if sum(cut) < count:
        return None
    return oldest_taken(cut, count)[1:] + (0,)


class Steps:
    """The states behind the days of a week on which pieces of each good are gained by cutting."""

    def __init__(self, week):
        self._week = [list(orders) for orders in week]
        # Few different rows of a good make up many stocks, so each row's night is worked out once.
        self._rows = {}

    def behind(self, state, gain, order):
        """Return the state behind a day with this gain and order, or None if it cannot be met."""
        day, stock = state
        rows = []
        for key in zip(stock, gain, order):
            if key not in self._rows:
                self._rows[key] = row_behind(*key)
            row = self._rows[key]
            if row is None:
                return None
            rows.append(row)
        return ((day + 1) % len(self._week), tuple(rows))

    def behind_orders(self, state, gain):
        """Return the list of what each order of the day leads to behind a gain."""
        return [self.behind(state, gain, order) for order in self._week[state[0]]]


class Met:
    """States in the order in which they are met, each once."""

    def __init__(self, first):
        self.states = [first]
        self._known = {first: True}

    def meet(self, found):
        """Put those of the found states that are new behind the others; None is no state."""
        for state in found:
            if state is not None and state not in self._known:
                self._known[state] = True
                self.states.append(state)


def states_from(steps, gains, first):
    """Return the states that days with any of the gains lead to, the first one among them, as they are met."""
    met = Met(first)
    done = 0
    while done < len(met.states):
        for gain in gains:
            met.meet(steps.behind_orders(met.states[done], gain))
        done += 1
    return met.states
