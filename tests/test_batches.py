import random
import unittest

from larderdays.batches import Ledger
from larderdays.days import one_day
from larderdays.errors import BadChoice, NoSuchBatch, Short
from larderdays.shops import Shop, choices
from larderdays.stocks import amounts, empty_stock, fresh, issue, overnight
from tests.book import Book, rows_of_deeds, state_of
from tests.brute import cases
from tests.samples import lean, parts, three_goods, two_goods


def told(thing, deed):
    """What a deed returns, or the error that it raises, with its field."""
    try:
        return getattr(thing, deed[0])(*deed[1:])
    except BadChoice:
        return "bad choice"
    except Short as error:
        return ("short", error.good)
    except NoSuchBatch as error:
        return ("none", error.number)


class BuyTest(unittest.TestCase):
    """[30], sides."""

    def test_numbers(self):
        ledger = Ledger(two_goods())
        self.assertEqual(ledger.buy((1, 1)), [0, 1])
        self.assertEqual(ledger.buy((0, 2)), [2, 3])
        ledger.night()
        self.assertEqual(ledger.buy((2, 0)), [4, 5])
        self.assertEqual(ledger.today, 1)

    def test_by_the_patterns_in_order(self):
        ledger = Ledger(three_goods())
        self.assertEqual(ledger.buy((1, 1, 1)), [0, 1, 2])
        self.assertEqual(ledger.where(0), ([], [], [(0, 1), (2, 2)]))
        self.assertEqual(ledger.where(1), ([], [], [(1, 1)]))
        self.assertEqual(ledger.where(2), ([], [], [(0, 2), (1, 1), (2, 1)]))

    def test_no_sides(self):
        ledger = Ledger(two_goods())
        self.assertEqual(ledger.buy((0, 0)), [])
        self.assertEqual(ledger.buy((1, 0)), [0])

    def test_a_pattern_that_gives_nothing(self):
        ledger = Ledger(Shop([1], [(1, (0,)), (1, (2,))], 2, [[(0,)]]))
        self.assertEqual(ledger.buy((1, 1)), [0, 1])
        self.assertEqual(ledger.where(0), ([], [], []))
        self.assertEqual(ledger.where(1), ([], [], [(0, 2)]))

    def test_more_than_once_a_day(self):
        ledger = Ledger(lean())
        for number in range(5):
            self.assertEqual(ledger.buy((1,)), [number])
        self.assertEqual(ledger.amounts(), [5])

    def test_a_choice_that_is_none(self):
        ledger = Ledger(two_goods(8))
        ledger.buy((1, 1))
        before = state_of(ledger, 2)
        for choice in [(2, 0), (0, 3), (-1, 1), (), (1,), (0, 0, 0)]:
            with self.assertRaises(BadChoice):
                ledger.buy(choice)
        self.assertEqual(state_of(ledger, 2), before)
        self.assertEqual(ledger.buy((0, 1)), [2])

    def test_a_budget_of_0(self):
        ledger = Ledger(lean(0))
        self.assertEqual(ledger.buy((0,)), [])
        with self.assertRaises(BadChoice):
            ledger.buy((1,))


class IssueTest(unittest.TestCase):
    """[30], issuing."""

    def test_ordinary(self):
        ledger = Ledger(two_goods())
        ledger.buy((1, 1))
        self.assertEqual(ledger.issue((1, 2)), [(0, 0, 1), (0, 1, 2)])
        self.assertEqual(ledger.where(0), ([(0, 0, 1), (0, 1, 2)], [], []))
        self.assertEqual(ledger.amounts(), [0, 1])

    def test_the_lowest_number_of_the_same_day(self):
        ledger = Ledger(two_goods())
        ledger.buy((1, 1)), ledger.buy((1, 0))
        self.assertEqual(ledger.issue((1, 4)), [(0, 0, 1), (0, 1, 2), (1, 1, 1), (2, 1, 1)])
        self.assertEqual(ledger.issue((1, 1)), [(2, 0, 1), (2, 1, 1)])

    def test_the_fewest_days_first(self):
        ledger = Ledger(Shop([3], [(1, (2,))], 1, [[(0,)]]))
        ledger.buy((1,)), ledger.night(), ledger.buy((1,)), ledger.night(), ledger.buy((1,))
        self.assertEqual(ledger.issue((3,)), [(0, 0, 2), (1, 0, 1)])
        self.assertEqual(ledger.issue((2,)), [(1, 0, 1), (2, 0, 1)])
        self.assertEqual(ledger.where(1), ([(2, 0, 1), (2, 0, 1)], [], []))

    def test_an_order_of_nothing(self):
        ledger = Ledger(two_goods())
        self.assertEqual(ledger.issue((0, 0)), [])
        ledger.buy((1, 0))
        self.assertEqual(ledger.issue((0, 0)), [])
        self.assertEqual(ledger.where(0), ([], [], [(0, 1), (1, 2)]))

    def test_a_side_of_which_all_is_issued(self):
        ledger = Ledger(lean())
        ledger.buy((1,)), ledger.buy((1,))
        self.assertEqual(ledger.issue((1,)), [(0, 0, 1)])
        self.assertEqual(ledger.issue((1,)), [(1, 0, 1)])
        self.assertEqual(ledger.where(0), ([(0, 0, 1)], [], []))
        self.assertEqual(ledger.amounts(), [0])

    def test_too_little(self):
        ledger = Ledger(two_goods())
        ledger.buy((1, 0))
        before = state_of(ledger, 1)
        for order, good in [((2, 0), 0), ((2, 9), 0), ((1, 3), 1), ((0, 3), 1)]:
            with self.assertRaises(Short) as caught:
                ledger.issue(order)
            self.assertEqual(caught.exception.good, good)
        self.assertEqual(state_of(ledger, 1), before)

    def test_too_little_of_nothing(self):
        with self.assertRaises(Short) as caught:
            Ledger(three_goods()).issue((0, 0, 1))
        self.assertEqual(caught.exception.good, 2)


class NightTest(unittest.TestCase):
    """[30], nights."""

    def test_ordinary(self):
        ledger = Ledger(two_goods())
        ledger.buy((1, 1))
        self.assertEqual(ledger.night(), [(0, 1, 2), (1, 1, 1)])
        self.assertEqual((ledger.today, ledger.amounts()), (1, [1, 0]))
        self.assertEqual(ledger.night(), [(0, 0, 1)])
        self.assertEqual(ledger.where(0), ([], [(0, 1, 2), (1, 0, 1)], []))

    def test_by_sides_and_then_goods(self):
        ledger = Ledger(Shop([1, 1], [(1, (1, 2))], 3, [[(0, 0)]]))
        ledger.buy((3,)), ledger.issue((1, 0))
        self.assertEqual(ledger.night(), [(0, 1, 2), (1, 0, 1), (1, 1, 2), (2, 0, 1), (2, 1, 2)])

    def test_each_good_on_its_last_day(self):
        ledger = Ledger(three_goods())
        ledger.buy((1, 0, 1))
        found = [ledger.night() for _ in range(4)]
        self.assertEqual(found, [[(1, 1, 1)], [(0, 2, 2), (1, 2, 1)], [(0, 0, 1), (1, 0, 2)], []])

    def test_without_pieces(self):
        ledger = Ledger(two_goods())
        for day in range(3):
            self.assertEqual(ledger.today, day)
            self.assertEqual(ledger.night(), [])
        self.assertEqual(ledger.buy((0, 1)), [0])
        self.assertEqual(ledger.night(), [(0, 1, 1)])
        self.assertEqual(ledger.where(0)[1], [(3, 1, 1)])

    def test_what_was_issued_or_recalled_does_not_spoil(self):
        ledger = Ledger(lean())
        ledger.buy((1,)), ledger.buy((1,)), ledger.buy((1,))
        ledger.issue((1,)), ledger.recall(1), ledger.night()
        self.assertEqual(ledger.night(), [(2, 0, 1)])


class WhereTest(unittest.TestCase):
    """[30], what became of a side."""

    def test_ordinary(self):
        ledger = Ledger(Shop([3, 1], [(1, (5, 4))], 1, [[(0, 0)]]))
        ledger.buy((1,)), ledger.issue((1, 2)), ledger.night(), ledger.issue((2, 0))
        self.assertEqual(ledger.where(0), ([(0, 0, 1), (0, 1, 2), (1, 0, 2)], [(0, 1, 2)], [(0, 2)]))

    def test_a_side_of_which_all_spoiled(self):
        ledger = Ledger(two_goods())
        ledger.buy((0, 1)), ledger.night()
        self.assertEqual(ledger.where(0), ([], [(0, 1, 1)], []))

    def test_a_side_that_there_is_not(self):
        ledger = Ledger(two_goods())
        ledger.buy((1, 1))
        for number in [2, 3, 65535, 65536, -1]:
            for call in [ledger.where, ledger.recall]:
                with self.assertRaises(NoSuchBatch) as caught:
                    call(number)
                self.assertEqual(caught.exception.number, number)
        with self.assertRaises(NoSuchBatch):
            Ledger(two_goods()).where(0)


class RecallTest(unittest.TestCase):
    """[30], recalls."""

    def test_ordinary(self):
        ledger = Ledger(two_goods())
        ledger.buy((2, 0)), ledger.issue((1, 1))
        self.assertEqual(ledger.recall(0), [(0, 0, 1), (0, 1, 1)])
        self.assertEqual(ledger.where(0), ([(0, 0, 1), (0, 1, 1)], [], []))
        self.assertEqual(ledger.amounts(), [1, 2])
        self.assertEqual(ledger.issue((1, 2)), [(1, 0, 1), (1, 1, 2)])

    def test_again(self):
        ledger = Ledger(two_goods())
        ledger.buy((1, 0)), ledger.issue((1, 0))
        for _ in range(3):
            self.assertEqual(ledger.recall(0), [(0, 0, 1)])
            self.assertEqual(ledger.amounts(), [0, 0])

    def test_a_side_of_which_nothing_was_issued(self):
        ledger = Ledger(two_goods())
        ledger.buy((1, 1))
        self.assertEqual(ledger.recall(1), [])
        self.assertEqual(ledger.amounts(), [1, 2])
        self.assertEqual(ledger.where(1), ([], [], []))

    def test_behind_its_last_day(self):
        ledger = Ledger(two_goods())
        ledger.buy((1, 0)), ledger.issue((0, 1)), ledger.night(), ledger.night()
        self.assertEqual(ledger.recall(0), [(0, 1, 1)])
        self.assertEqual(ledger.where(0), ([(0, 1, 1)], [(0, 1, 1), (1, 0, 1)], []))

    def test_what_is_recalled_cannot_be_issued(self):
        ledger = Ledger(lean())
        ledger.buy((1,)), ledger.recall(0)
        with self.assertRaises(Short):
            ledger.issue((1,))


class AgainstItsWordsTest(unittest.TestCase):
    """[30], deed by deed."""

    def test_deeds(self):
        seen = {}
        for shop, deeds in rows_of_deeds(150, 81):
            ledger, book = Ledger(shop), Book(shop)
            for deed in deeds:
                before = state_of(ledger, book.sides)
                answer = told(ledger, deed)
                self.assertEqual(answer, told(book, deed))
                self.assertEqual(state_of(ledger, book.sides), state_of(book, book.sides))
                if isinstance(answer, (str, tuple)):
                    self.assertEqual(state_of(ledger, book.sides), before)
                kind = (deed[0], answer[0] if isinstance(answer, tuple) else bool(answer))
                seen[kind] = True
        self.assertEqual(len(seen), 10, seen)

    def test_many_sides(self):
        ledger = Ledger(Shop([2], [(1, (3,))], 6, [[(0,)]]))
        for day in range(2000):
            self.assertEqual(ledger.buy((6,)), list(range(6 * day, 6 * day + 6)))
            ledger.issue((17,))
            ledger.night()
        self.assertEqual(ledger.recall(11999), [])
        self.assertEqual(ledger.where(0), ([(0, 0, 3)], [], []))
        with self.assertRaises(NoSuchBatch):
            ledger.where(12000)


class StockTest(unittest.TestCase):
    """[11] and [30]: the pieces of a ledger are those of the stock of the same days."""

    def test_the_same_days(self):
        chance = random.Random(82)
        refused = 0
        for shop, _, _ in cases(60, seed=83) + [(three_goods(), None, None), (two_goods(8), None, None)]:
            ledger, stock = Ledger(shop), empty_stock(shop)
            for _ in range(12):
                choice = chance.choice(choices(shop))
                order = tuple(chance.randint(0, 3) for _ in shop.keep)
                ledger.buy(choice)
                cut = fresh(shop, stock, choice)
                self.assertEqual(ledger.amounts(), list(amounts(cut)))
                try:
                    left = issue(cut, order)
                except Short as error:
                    before = state_of(ledger, 0)
                    self.assertEqual(told(ledger, ("issue", order)), ("short", error.good))
                    self.assertEqual(state_of(ledger, 0), before)
                    refused += 1
                    left, order = cut, (0,) * len(order)
                else:
                    ledger.issue(order)
                self.assertEqual(ledger.amounts(), list(amounts(left)))
                morning, spoiled = overnight(left)
                self.assertEqual(one_day(shop, stock, choice, order), (morning, spoiled))
                found = ledger.night()
                self.assertEqual(
                    tuple(sum(count for _, good, count in found if good == each) for each in range(len(shop.keep))),
                    spoiled,
                )
                self.assertEqual(ledger.amounts(), list(amounts(morning)))
                stock = morning
        self.assertGreater(refused, 50)


class NothingChangesTest(unittest.TestCase):
    """[2], for ledgers."""

    def test_a_shop_is_not_changed(self):
        shop = two_goods(9)
        ledger = Ledger(shop)
        ledger.buy((1, 1)), ledger.issue((1, 1)), ledger.night(), ledger.recall(0)
        self.assertEqual(parts(shop), parts(two_goods(9)))

    def test_lists_are_new(self):
        ledger = Ledger(two_goods())
        ledger.buy((1, 1)).clear()
        ledger.issue((0, 1)).clear()
        ledger.night().clear()
        before = state_of(ledger, 2)
        for rows in ledger.where(0):
            rows.append("more")
        ledger.recall(1).append("more")
        ledger.amounts().clear()
        self.assertEqual(state_of(ledger, 2), before)

    def test_ledgers_are_apart(self):
        shop = two_goods()
        one, other = Ledger(shop), Ledger(shop)
        one.buy((1, 1)), one.night()
        self.assertEqual((other.today, other.amounts()), (0, [0, 0]))


if __name__ == "__main__":
    unittest.main()
