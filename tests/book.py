"""A ledger as the document tells it, piece by piece, by nothing of the package but its errors; and deeds for one."""

import itertools
import random

from larderdays.errors import BadChoice, NoSuchBatch, Short
from tests.brute import all_choices, any_shop


class Book:
    """[30]."""

    def __init__(self, shop):
        self.shop = shop
        self.today = 0
        self.sides = 0
        self.pieces = []
        self.issued = []
        self.spoiled = []

    def buy(self, choice):
        if choice not in all_choices(self.shop):
            raise BadChoice()
        first = self.sides
        for many, (_, counts) in zip(choice, self.shop.patterns):
            for _ in range(many):
                for good, count in enumerate(counts):
                    self.pieces += [(good, self.today + self.shop.keep[good] - 1, self.sides)] * count
                self.sides += 1
        return list(range(first, self.sides))

    def issue(self, order):
        for good, count in enumerate(order):
            if sum(piece[0] == good for piece in self.pieces) < count:
                raise Short(good)
        taken = []
        for good, count in enumerate(order):
            for piece in sorted(piece for piece in self.pieces if piece[0] == good)[:count]:
                self.pieces.remove(piece)
                taken.append((piece[2], good))
        taken = [(side, good, len(list(row))) for (side, good), row in itertools.groupby(taken)]
        self.issued += [(side, (self.today, good, count)) for side, good, count in taken]
        return taken

    def night(self):
        old = sorted((side, good) for good, last, side in self.pieces if last == self.today)
        self.pieces = [piece for piece in self.pieces if piece[1] > self.today]
        spoiled = [(side, good, len(list(row))) for (side, good), row in itertools.groupby(old)]
        self.spoiled += [(side, (self.today, good, count)) for side, good, count in spoiled]
        self.today += 1
        return spoiled

    def where(self, number):
        if number not in range(self.sides):
            raise NoSuchBatch(number)
        there = sorted(good for good, _, side in self.pieces if side == number)
        return (
            [row for side, row in self.issued if side == number],
            [row for side, row in self.spoiled if side == number],
            [(good, len(list(row))) for good, row in itertools.groupby(there)],
        )

    def recall(self, number):
        issued = self.where(number)[0]
        self.pieces = [piece for piece in self.pieces if piece[2] != number]
        return issued

    def amounts(self):
        return [sum(piece[0] == good for piece in self.pieces) for good in range(len(self.shop.keep))]

    def perform(self, deed):
        return {"buy": self.buy, "issue": self.issue, "night": self.night, "recall": self.recall}[deed[0]](*deed[1:])


def state_of(ledger, sides):
    """All that a ledger, or a book, tells."""
    # Tuples, so that what is told is not changed by what comes.
    return ledger.today, ledger.amounts(), [tuple(map(tuple, ledger.where(number))) for number in range(sides)]


def any_deed(chance, shop, sides):
    """Some deed; some of them raise."""
    kind = chance.choice(["buy", "buy", "issue", "issue", "issue", "night", "night", "recall", "wrong"])
    if kind == "buy":
        return ("buy", chance.choice(all_choices(shop)))
    if kind == "issue":
        return ("issue", tuple(chance.randint(0, 3) for _ in shop.keep))
    if kind == "night":
        return ("night",)
    if kind == "recall":
        return ("recall", chance.randint(0, sides))
    return chance.choice([
        ("buy", (shop.most + 1,) + (0,) * (len(shop.patterns) - 1)),
        ("issue", tuple(chance.choice([0, 99]) for _ in shop.keep)),
        ("recall", sides + chance.randint(0, 3)),
    ])


def rows_of_deeds(many, seed, length=25):
    """So many tuples (shop, deeds), always the same ones."""
    chance = random.Random(seed)
    found = []
    for _ in range(many):
        shop = any_shop(chance)
        book = Book(shop)
        deeds = []
        for _ in range(length):
            deed = any_deed(chance, shop, book.sides)
            deeds.append(deed)
            try:
                book.perform(deed)
            except (BadChoice, Short, NoSuchBatch):
                pass
        found.append((shop, deeds))
    return found
