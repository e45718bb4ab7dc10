import itertools
import unittest

from larderdays.games import Game, next_state
from larderdays.papers import beating_paper, safe_paper, verify_beating, verify_safe
from larderdays.shops import Shop, choices
from larderdays.stocks import is_better
from tests.brute import Judge, after, all_choices, cases, is_state, shows_beaten, shows_safe
from tests.samples import lean, parts, steady, two_goods

EMPTY = ((0, 0), (0,))
SOME = cases(30, seed=11) + cases(15, seed=12, least=1, most=3)

# The safe paper of two_goods from its empty stock on, and the beating paper of lean from two old pieces on.
SAFE = [((0, EMPTY), (1, 0)), ((1, EMPTY), (1, 0)), ((1, ((1, 0), (0,))), (0, 1))]
BEATING = [
    ((0, ((2, 0),)), 3, [(0,), (0,)]),
    ((0, ((0, 0),)), 1, [(2,), (2,)]),
    ((0, ((1, 0),)), 2, [(2,), (2,)]),
]


def other_states(shop, state):
    """States near to one, also such that are none."""
    day, stock = state
    found = [(day + 1, stock), (day - 1, stock), (len(shop.week), stock), (day, stock[1:]), (day, stock + ((0,),))]
    for good, row in enumerate(stock):
        found.append((day, stock[:good] + (row + (0,),) + stock[good + 1:]))
        for place, step in itertools.product(range(len(row)), [-1, 1]):
            changed = row[:place] + (row[place] + step,) + row[place + 1:]
            found.append((day, stock[:good] + (changed,) + stock[good + 1:]))
    return found


def with_row(paper, place, row):
    return paper[:place] + [row] + paper[place + 1:]


def changed_papers(paper):
    """The paper with a row left out, twice in it, or last."""
    for place, row in enumerate(paper):
        yield paper[:place] + paper[place + 1:]
        yield paper + [row]
        yield paper[:place] + paper[place + 1:] + [row]
    yield []
    yield paper[::-1]


def changed_safe_papers(shop, paper):
    yield from changed_papers(paper)
    wrong = [(9,) * len(shop.patterns), (-1,) + (0,) * (len(shop.patterns) - 1), (), (0,) * (len(shop.patterns) + 1)]
    for place, (state, choice) in enumerate(paper):
        for other in all_choices(shop) + wrong:
            yield with_row(paper, place, (state, other))
        for other in other_states(shop, state) + [other for other, _ in paper]:
            yield with_row(paper, place, (other, choice))


def changed_beating_papers(shop, paper):
    yield from changed_papers(paper)
    for place, (state, rank, orders) in enumerate(paper):
        for other in [rank - 1, rank + 1, 1, 0, -1]:
            yield with_row(paper, place, (state, other, orders))
        for other in other_states(shop, state) + [other for other, _, _ in paper]:
            yield with_row(paper, place, (other, rank, orders))
        for other in [[], orders[:-1], orders[1:], orders + orders[:1]]:
            yield with_row(paper, place, (state, rank, other))
        wrong = [(21,) * len(shop.keep), (), (0,) * (len(shop.keep) + 1)]
        for at in range(len(orders)):
            for order in shop.week[state[0]] + wrong:
                yield with_row(paper, place, (state, rank, orders[:at] + [order] + orders[at + 1:]))


def asked(shop, stock, day):
    """The state of a paper, and some that it was not made for."""
    return [(day, stock)] + [state for state in other_states(shop, (day, stock)) if is_state(shop, state)]


class SafePaperTest(unittest.TestCase):
    """[16], the paper."""

    def test_ordinary(self):
        self.assertEqual(safe_paper(two_goods(), EMPTY, 0), SAFE)

    def test_with_a_budget(self):
        self.assertEqual(safe_paper(two_goods(5), EMPTY, 0), SAFE)

    def test_one_day_and_one_order(self):
        self.assertEqual(safe_paper(steady(), ((0,),), 0), [((0, ((0,),)), (0, 1))])

    def test_a_budget_of_0(self):
        shop = Shop([2], [(1, (2,)), (0, (1,))], 2, [[(2,)], [(0,), (1,)]], 0)
        self.assertEqual(safe_paper(shop, ((0, 0),), 0), [
            ((0, ((0, 0),)), (0, 2)),
            ((1, ((0, 0),)), (0, 1)),
            ((0, ((1, 0),)), (0, 1)),
        ])

    def test_pieces_at_the_last_places(self):
        self.assertEqual(safe_paper(two_goods(), ((1, 1), (2,)), 0), [
            ((0, ((1, 1), (2,))), (0, 0)),
            ((1, ((1, 0), (0,))), (0, 1)),
            ((0, EMPTY), (1, 0)),
            ((1, EMPTY), (1, 0)),
        ])

    def test_a_state_that_is_not_safe(self):
        self.assertIsNone(safe_paper(two_goods(4), EMPTY, 0))
        self.assertIsNone(safe_paper(lean(), ((2, 0),), 0))
        self.assertIsNone(safe_paper(steady(2), ((0,),), 0))

    def test_none_just_for_states_that_are_not_safe(self):
        seen = {}
        for shop, stock, day in SOME:
            game = Game(shop, stock, day)
            rank = Judge(shop, len(game.states)).rank((day, stock))
            paper = safe_paper(shop, stock, day)
            self.assertIs(paper is None, rank is not None)
            seen[rank is None] = True
            if paper is not None:
                self.assertIs(verify_safe(shop, stock, day, paper), True)
                self.assertTrue(shows_safe(shop, stock, day, paper))
        self.assertEqual(len(seen), 2)

    def test_the_states_that_the_rule_comes_to(self):
        for shop, stock, day in SOME:
            paper = safe_paper(shop, stock, day)
            if paper is not None:
                game = Game(shop, stock, day)
                met = [(day, stock)]
                for state in met:
                    for order in shop.week[state[0]]:
                        found = after(shop, state, game.told_choice(state), order)
                        met += [found] if found not in met else []
                self.assertEqual(paper, [(state, game.told_choice(state)) for state in met])

    def test_whoever_follows_it_meets_all_orders(self):
        for shop, stock, day in SOME:
            paper = safe_paper(shop, stock, day)
            if paper is not None:
                told = dict(paper)
                states = [(day, stock)]
                for _ in range(12):
                    states = [
                        next_state(shop, state, told[state], order)
                        for state in sorted(set(states)) for order in shop.week[state[0]]
                    ]
                    self.assertNotIn(None, states)


class VerifySafeTest(unittest.TestCase):
    """[16] and [18], the check."""

    def check(self, shown, shop, state, paper):
        self.assertIs(verify_safe(shop, state[1], state[0], paper), shown, (state, paper))
        self.assertIs(shows_safe(shop, state[1], state[0], paper), shown)

    def test_the_paper_itself(self):
        self.check(True, two_goods(), (0, EMPTY), SAFE)
        self.check(True, two_goods(), (0, EMPTY), SAFE[::-1])

    def test_other_states(self):
        self.check(True, two_goods(), (1, EMPTY), SAFE)
        self.check(True, two_goods(), (0, ((0, 2), (1,))), SAFE)
        self.check(True, two_goods(), (1, ((1, 0), (0,))), SAFE[:2])
        self.check(False, two_goods(), (1, EMPTY), [SAFE[0], SAFE[2]])
        self.check(False, lean(), (0, ((2, 0),)), [((0, ((2, 0),)), (1,))])

    def test_a_worse_state_will_do(self):
        # The empty stock on day 1 stands for all others.
        self.check(True, two_goods(), (0, ((0, 0), (0,))), SAFE[:2])

    def test_rows_left_out(self):
        self.check(False, two_goods(), (0, EMPTY), SAFE[1:])
        self.check(False, two_goods(), (0, EMPTY), [SAFE[0], SAFE[2]])
        self.check(False, two_goods(), (0, EMPTY), SAFE[:1])

    def test_an_empty_paper(self):
        self.check(False, two_goods(), (0, EMPTY), [])
        self.check(False, steady(), (0, ((9,),)), [])

    def test_a_state_twice(self):
        self.check(False, two_goods(), (0, EMPTY), SAFE + SAFE[:1])
        self.check(False, two_goods(), (0, EMPTY), SAFE + [((0, EMPTY), (2, 0))])

    def test_other_choices(self):
        self.check(True, two_goods(), (0, EMPTY), with_row(SAFE, 0, ((0, EMPTY), (1, 1))))
        self.check(False, two_goods(), (0, EMPTY), with_row(SAFE, 0, ((0, EMPTY), (0, 2))))
        self.check(False, two_goods(), (0, EMPTY), with_row(SAFE, 2, (SAFE[2][0], (0, 0))))

    def test_choices_that_are_none(self):
        for choice in [(), (1,), (1, 0, 0), (3, 0), (2, 1), (2, -1), (-1, 2)]:
            self.check(False, two_goods(), (0, EMPTY), with_row(SAFE, 0, ((0, EMPTY), choice)))
        self.check(False, two_goods(7), (0, EMPTY), with_row(SAFE, 0, ((0, EMPTY), (1, 1))))
        self.check(False, two_goods(4), (0, EMPTY), SAFE)
        # Also in a row that nothing leads to.
        self.check(False, two_goods(), (0, EMPTY), SAFE + [((0, ((5, 0), (5,))), (3, 0))])

    def test_states_that_are_none(self):
        for state in [(2, EMPTY), (-1, EMPTY), (0, ((0, 0),)), (0, ((0, 0), (0,), (0,))), (0, ((0,), (0,))),
                      (0, ((0, 0, 0), (0,))), (0, ((0, 0), ())), (0, ()), (0, ((0, -1), (0,))), (0, ((1, 1), (-1,)))]:
            self.check(False, two_goods(), (0, EMPTY), SAFE + [(state, (1, 0))])

    def test_a_row_more(self):
        self.check(True, two_goods(), (0, EMPTY), SAFE + [((0, ((5, 7), (5,))), (0, 0))])
        self.check(False, two_goods(), (0, EMPTY), SAFE + [((0, ((0, 0), (5,))), (0, 0))])

    def test_another_day(self):
        # Each day for itself: the second day's state does not stand for the first day's.
        self.check(False, two_goods(), (0, EMPTY), [((1, EMPTY), (1, 0))])
        shop = Shop([1], [(1, (1,))], 1, [[(1,)], [(0,)]])
        self.check(True, shop, (0, ((0,),)), [((0, ((0,),)), (1,)), ((1, ((0,),)), (0,))])
        self.check(False, shop, (0, ((0,),)), [((0, ((0,),)), (1,))])

    def test_changed_papers(self):
        shown = {True: 0, False: 0}
        for shop, stock, day in SOME:
            paper = safe_paper(shop, stock, day)
            if paper is not None and len(paper) <= 12:
                for changed in changed_safe_papers(shop, paper):
                    for state in asked(shop, stock, day)[:4]:
                        found = verify_safe(shop, state[1], state[0], changed)
                        self.assertIs(found, shows_safe(shop, state[1], state[0], changed), (state, changed))
                        shown[found] += 1
        self.assertGreater(min(shown.values()), 300, shown)

    def test_shown_exactly_if_safe(self):
        for shop, stock, day in SOME:
            game = Game(shop, stock, day)
            paper = [(state, game.told_choice(state)) for state in game.states if game.rank[state] is None]
            for state in game.states:
                self.check(game.rank[state] is None, shop, state, paper)
            self.assertIs(
                verify_safe(shop, stock, day, [(state, game.told_choice(state)) for state in game.states]),
                all(rank is None for rank in game.rank.values()),
            )

    def test_the_worst_states_are_enough(self):
        shorter = 0
        for shop, stock, day in SOME:
            game = Game(shop, stock, day)
            safe = [state for state in game.states if game.rank[state] is None]
            worst = [state for state in safe if not any(
                other != state and other[0] == state[0] and is_better(state[1], other[1]) for other in safe)]
            paper = [(state, game.told_choice(state)) for state in worst]
            shorter += len(worst) < len(safe)
            for state in safe:
                self.check(True, shop, state, paper)
        self.assertGreater(shorter, 5)


class BeatingPaperTest(unittest.TestCase):
    """[17], the paper."""

    def test_ordinary(self):
        self.assertEqual(beating_paper(lean(), ((2, 0),), 0), BEATING)

    def test_beaten_within_1_day(self):
        self.assertEqual(beating_paper(steady(2), ((0,),), 0), [((0, ((0,),)), 1, [(2,), (2,)])])
        self.assertEqual(beating_paper(two_goods(4), EMPTY, 0), [((0, EMPTY), 1, [(1, 0), (1, 0)])])

    def test_a_budget_of_0(self):
        self.assertEqual(beating_paper(lean(0), ((2, 0),), 0), [
            ((0, ((2, 0),)), 2, [(0,)]),
            ((0, ((0, 0),)), 1, [(2,)]),
        ])

    def test_one_order(self):
        self.assertEqual(beating_paper(steady(2), ((2,),), 0), [
            ((0, ((2,),)), 2, [(2,), (2,)]),
            ((0, ((0,),)), 1, [(2,), (2,)]),
        ])

    def test_pieces_at_the_last_places(self):
        self.assertEqual(beating_paper(lean(), ((0, 1),), 0), [
            ((0, ((0, 1),)), 2, [(2,), (2,)]),
            ((0, ((0, 0),)), 1, [(2,), (2,)]),
        ])

    def test_a_safe_state(self):
        self.assertIsNone(beating_paper(two_goods(), EMPTY, 0))
        self.assertIsNone(beating_paper(two_goods(5), EMPTY, 1))
        self.assertIsNone(beating_paper(steady(), ((0,),), 0))

    def test_accepted_for_its_rank_and_no_less(self):
        seen = {}
        for shop, stock, day in SOME:
            rank = Judge(shop, 60).rank((day, stock))
            paper = beating_paper(shop, stock, day)
            self.assertIs(paper is None, rank is None)
            if paper is not None:
                seen[rank] = True
                self.assertEqual(paper[0][:2], ((day, stock), rank))
                for days in range(-1, rank + 3):
                    self.assertIs(verify_beating(shop, stock, day, paper, days), days >= rank)
                    self.assertIs(shows_beaten(shop, stock, day, paper, days), days >= rank)
        self.assertGreater(len(seen), 3, seen)

    def test_the_states_that_the_orders_lead_to(self):
        for shop, stock, day in SOME:
            paper = beating_paper(shop, stock, day)
            if paper is not None:
                game = Game(shop, stock, day)
                rows = []
                met = [(day, stock)]
                for state in met:
                    orders = [game.told_order(state, place) for place in range(len(game.choices))]
                    for choice, order in zip(game.choices, orders):
                        found = after(shop, state, choice, order)
                        met += [found] if found is not None and found not in met else []
                    rows.append((state, game.rank[state], orders))
                self.assertEqual(paper, rows)

    def test_its_orders_beat_all_choices(self):
        for shop, stock, day in SOME:
            paper = beating_paper(shop, stock, day)
            if paper is not None:
                told = {state: orders for state, _, orders in paper}
                states = [(day, stock)]
                for _ in range(paper[0][1]):
                    states = sorted({
                        next_state(shop, state, choice, order)
                        for state in states
                        for choice, order in zip(choices(shop), told[state])
                    } - {None})
                self.assertEqual(states, [])


class VerifyBeatingTest(unittest.TestCase):
    """[17] and [18], the check."""

    def check(self, shown, shop, state, paper, days):
        self.assertIs(verify_beating(shop, state[1], state[0], paper, days), shown, (state, paper, days))
        self.assertIs(shows_beaten(shop, state[1], state[0], paper, days), shown)

    def test_the_paper_itself(self):
        for paper in [BEATING, BEATING[::-1]]:
            for days in range(-1, 6):
                self.check(days >= 3, lean(), (0, ((2, 0),)), paper, days)

    def test_other_states(self):
        self.check(True, lean(), (0, ((0, 0),)), BEATING, 1)
        self.check(False, lean(), (0, ((1, 0),)), BEATING, 1)
        self.check(True, lean(), (0, ((1, 0),)), BEATING, 2)
        self.check(True, lean(), (0, ((1, 0),)), [BEATING[0], BEATING[1], BEATING[2]], 3)
        self.check(False, lean(), (0, ((3, 0),)), BEATING, 9)
        self.check(False, lean(), (0, ((0, 2),)), BEATING, 9)

    def test_a_better_state_will_do(self):
        self.check(True, lean(), (0, ((0, 0),)), [BEATING[1], BEATING[2]], 2)
        paper = [((0, ((0, 1),)), 2, [(2,), (2,)]), BEATING[1]]
        self.check(True, lean(), (0, ((1, 0),)), paper, 2)
        self.check(False, lean(), (0, ((1, 0),)), paper, 1)
        self.check(True, lean(), (0, ((0, 0),)), paper, 1)

    def test_rows_left_out(self):
        for place in range(3):
            self.check(False, lean(), (0, ((2, 0),)), BEATING[:place] + BEATING[place + 1:], 3)

    def test_an_empty_paper(self):
        for days in [0, 1, 9]:
            self.check(False, lean(), (0, ((0, 0),)), [], days)

    def test_no_days(self):
        self.check(False, lean(), (0, ((0, 0),)), BEATING, 0)
        self.check(False, lean(), (0, ((0, 0),)), with_row(BEATING, 1, ((0, ((0, 0),)), 0, [(2,), (2,)])), 0)

    def test_a_state_twice(self):
        self.check(False, lean(), (0, ((2, 0),)), BEATING + BEATING[:1], 3)
        self.check(False, lean(), (0, ((2, 0),)), BEATING + [((0, ((0, 0),)), 2, [(2,), (2,)])], 3)

    def test_other_orders(self):
        state, rank, _ = BEATING[0]
        self.check(True, lean(), state, with_row(BEATING, 0, (state, rank, [(2,), (2,)])), 3)
        state, rank, _ = BEATING[2]
        self.check(False, lean(), state, with_row(BEATING, 2, (state, rank, [(2,), (0,)])), 2)
        # Behind no side the order of none leads to the empty stock, which is beaten within 1 day.
        self.check(True, lean(), state, with_row(BEATING, 2, (state, rank, [(0,), (2,)])), 2)

    def test_orders_of_no_day(self):
        for order in [(1,), (3,), (20,), (), (2, 0)]:
            self.check(False, lean(), (0, ((2, 0),)), with_row(BEATING, 1, (BEATING[1][0], 1, [(2,), order])), 3)
        shop = Shop([1], [(1, (1,))], 1, [[(1,)], [(2,)]])
        self.check(True, shop, (1, ((0,),)), [((1, ((0,),)), 1, [(2,), (2,)])], 1)
        self.check(False, shop, (0, ((0,),)), [((0, ((0,),)), 1, [(2,), (2,)])], 1)

    def test_lists_of_orders_of_another_length(self):
        for orders in [[], [(2,)], [(2,), (2,), (2,)]]:
            self.check(False, lean(), (0, ((2, 0),)), with_row(BEATING, 1, (BEATING[1][0], 1, orders)), 3)
        # A budget leaves fewer choices.
        self.check(False, lean(0), (0, ((0, 0),)), [BEATING[1]], 1)
        self.check(True, lean(0), (0, ((0, 0),)), [((0, ((0, 0),)), 1, [(2,)])], 1)

    def test_other_ranks(self):
        state, _, orders = BEATING[0]
        for rank in range(-1, 6):
            self.check(rank >= 3, lean(), state, with_row(BEATING, 0, (state, rank, orders)), 5)
        for place in [1, 2]:
            state, rank, orders = BEATING[place]
            self.check(False, lean(), (0, ((2, 0),)), with_row(BEATING, place, (state, rank + 2, orders)), 3)

    def test_ranks_below_1(self):
        for rank in [0, -1]:
            row = ((0, ((0, 0),)), rank, [(2,), (2,)])
            self.check(False, lean(), (0, ((0, 0),)), [row], 1)
            # Also in a row that nothing leads to.
            self.check(False, lean(), (0, ((1, 0),)), BEATING[1:] + [((0, ((0, 1),)), rank, [(2,), (2,)])], 2)

    def test_a_state_does_not_beat_by_itself(self):
        shop = Shop([1], [(1, (1,))], 1, [[(1,)]])
        self.check(False, shop, (0, ((0,),)), [((0, ((0,),)), 1, [(1,), (1,)])], 9)
        self.check(False, shop, (0, ((0,),)), [((0, ((0,),)), 9, [(1,), (1,)])], 9)

    def test_states_that_are_none(self):
        for state in [(1, ((0, 0),)), (-1, ((0, 0),)), (0, ()), (0, ((0,),)), (0, ((0, 0, 0),)),
                      (0, ((0, 0), (0,))), (0, ((-1, 0),)), (0, ((1, -1),))]:
            self.check(False, lean(), (0, ((2, 0),)), BEATING + [(state, 1, [(2,), (2,)])], 3)

    def test_changed_papers(self):
        shown = {True: 0, False: 0}
        for shop, stock, day in SOME:
            paper = beating_paper(shop, stock, day)
            if paper is not None and len(paper) <= 12:
                rank = paper[0][1]
                for changed in changed_beating_papers(shop, paper):
                    for state, days in [((day, stock), rank), (asked(shop, stock, day)[-1], rank + 1)]:
                        found = verify_beating(shop, state[1], state[0], changed, days)
                        self.assertIs(found, shows_beaten(shop, state[1], state[0], changed, days), (state, changed))
                        shown[found] += 1
        self.assertGreater(min(shown.values()), 300, shown)

    def test_shown_exactly_if_beaten_within_so_many_days(self):
        for shop, stock, day in SOME:
            game = Game(shop, stock, day)
            paper = [
                (state, rank, [game.told_order(state, place) for place in range(len(game.choices))])
                for state, rank in game.rank.items() if rank is not None
            ]
            for state, rank in game.rank.items():
                for days in range(5):
                    self.check(rank is not None and rank <= days, shop, state, paper, days)

    def test_the_best_states_are_enough(self):
        shorter = 0
        for shop, stock, day in SOME:
            game = Game(shop, stock, day)
            beaten = {state: rank for state, rank in game.rank.items() if rank is not None}
            best = [state for state in beaten if not any(
                other != state and other[0] == state[0] and beaten[other] <= beaten[state]
                and is_better(other[1], state[1]) for other in beaten)]
            paper = [
                (state, beaten[state], [game.told_order(state, place) for place in range(len(game.choices))])
                for state in best
            ]
            shorter += len(best) < len(beaten)
            for state, rank in beaten.items():
                self.check(True, shop, state, paper, rank)
                self.check(False, shop, state, paper, rank - 1)
        self.assertGreater(shorter, 5)


class NothingChangesTest(unittest.TestCase):
    """[2], for papers."""

    def test_nothing_is_changed(self):
        shop, beaten = two_goods(), lean()
        before = parts(shop), parts(beaten)
        safe = list(SAFE)
        beating = [(state, rank, list(orders)) for state, rank, orders in BEATING]
        safe_paper(shop, EMPTY, 0), beating_paper(shop, EMPTY, 0)
        safe_paper(beaten, ((2, 0),), 0), beating_paper(beaten, ((2, 0),), 0)
        verify_safe(shop, EMPTY, 0, safe), verify_safe(beaten, ((2, 0),), 0, safe)
        verify_beating(beaten, ((2, 0),), 0, beating, 3), verify_beating(beaten, ((2, 0),), 0, beating, 1)
        self.assertEqual((parts(shop), parts(beaten)), before)
        self.assertEqual((safe, beating), (SAFE, BEATING))

    def test_papers_are_new(self):
        safe_paper(two_goods(), EMPTY, 0).clear()
        self.assertEqual(safe_paper(two_goods(), EMPTY, 0), SAFE)
        shop = lean()
        paper = beating_paper(shop, ((2, 0),), 0)
        for _, _, orders in paper:
            orders.clear()
        paper.clear()
        self.assertEqual(beating_paper(shop, ((2, 0),), 0), BEATING)
        self.assertEqual(shop.week, [[(0,), (2,)]])

    def test_kinds(self):
        paper = beating_paper(lean(), ((2, 0),), 0)
        self.assertIs(type(paper), list)
        self.assertEqual([(type(row), type(row[2])) for row in paper], [(tuple, list)] * 3)
        self.assertEqual([type(row) for row in safe_paper(two_goods(), EMPTY, 0)], [tuple] * 3)


if __name__ == "__main__":
    unittest.main()
