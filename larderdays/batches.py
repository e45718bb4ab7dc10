"""Batches: a ledger that traces what was cut from which side."""

from larderdays.errors import BadChoice, NoSuchBatch
from larderdays.shops import is_choice
from larderdays.stocks import check_enough


class Ledger:
    """The sides that were bought, and what became of their pieces."""

    def __init__(self, shop):
        self.today = 0
        self._shop = shop
        # For each side the day on which it was bought, and tuples (day, good, count) of what left the ledger.
        self._bought = []
        self._issued = []
        self._spoiled = []
        # For each good a dict from sides to the pieces of it that are there, in the order of the sides. A side that
        # was bought earlier keeps no longer, so those that keep the fewest days stand first.
        self._there = [{} for _ in shop.keep]

    def buy(self, choice):
        """Buy and cut sides by a choice; return the list of their numbers; raise BadChoice."""
        if not is_choice(self._shop, choice):
            raise BadChoice()
        first = len(self._bought)
        for sides, (_, counts) in zip(choice, self._shop.patterns):
            for _ in range(sides):
                self._add_side(counts)
        return list(range(first, len(self._bought)))

    def _add_side(self, counts):
        """Add a side with its pieces of each good."""
        for good, count in enumerate(counts):
            if count > 0:
                self._there[good][len(self._bought)] = count
        self._bought.append(self.today)
        self._issued.append([])
        self._spoiled.append([])

    def issue(self, order):
        """Issue an order; return tuples (side, good, count) in the order in which they are taken; raise Short."""
        check_enough([list(there.values()) for there in self._there], order)
        taken = []
        for good, count in enumerate(order):
            taken.extend(self._first_pieces(good, count))
        for side, good, count in taken:
            self._remove(side, good, count)
            self._issued[side].append((self.today, good, count))
        return taken

    def _first_pieces(self, good, count):
        """Return tuples (side, good, count) of so many pieces of a good, those that keep the fewest days first."""
        found = []
        for side, pieces in self._there[good].items():
            if count == 0:
                break
            part = min(pieces, count)
            found.append((side, good, part))
            count -= part
        return found

    def _remove(self, side, good, count):
        """Remove so many pieces of a good of a side from what is there."""
        self._there[good][side] -= count
        if self._there[good][side] == 0:
            del self._there[good][side]

    def night(self):
        """Let the night come; return tuples (side, good, count) of what spoils, by sides and then goods."""
        spoiled = []
        for good, days in enumerate(self._shop.keep):
            spoiled.extend(self._last_pieces(good, self.today - days + 1))
        spoiled = sorted(spoiled)
        for side, good, count in spoiled:
            self._remove(side, good, count)
            self._spoiled[side].append((self.today, good, count))
        self.today += 1
        return spoiled

    def _last_pieces(self, good, day):
        """Return tuples (side, good, count) of the pieces of a good of sides that were bought up to a day."""
        found = []
        for side, pieces in self._there[good].items():
            if self._bought[side] > day:
                break
            found.append((side, good, pieces))
        return found

    def where(self, number):
        """Return a tuple of lists: what was issued of a side, what spoiled, and what is there; raise NoSuchBatch."""
        self._check_side(number)
        there = [(good, pieces[number]) for good, pieces in enumerate(self._there) if number in pieces]
        return list(self._issued[number]), list(self._spoiled[number]), there

    def recall(self, number):
        """Take out what is there of a side; return what was issued of it; raise NoSuchBatch."""
        _, _, there = self.where(number)
        for good, count in there:
            self._remove(number, good, count)
        return list(self._issued[number])

    def amounts(self):
        """Return the list of how many pieces of each good are there."""
        return [sum(there.values()) for there in self._there]

    def _check_side(self, number):
        """Raise NoSuchBatch if no side has this number."""
        if not 0 <= number < len(self._bought):
            raise NoSuchBatch(number)
