import unittest

from larderdays.errors import BadChoice
from larderdays.games import Game, days_to_beat, next_state, reached, rule_choice
from larderdays.shops import Shop, choices
from larderdays.stocks import empty_stock, is_better
from tests.brute import Judge, after, all_choices, all_reached, cases
from tests.samples import lean, parts, steady, two_goods

EMPTY = ((0, 0), (0,))


class NextStateTest(unittest.TestCase):
    """[12]."""

    def test_ordinary(self):
        shop = two_goods()
        self.assertEqual(next_state(shop, (0, EMPTY), (1, 0), (0, 2)), (1, ((1, 0), (0,))))
        self.assertEqual(next_state(shop, (1, ((1, 0), (0,))), (0, 1), (1, 1)), (0, EMPTY))

    def test_behind_the_last_day_comes_the_first_one(self):
        shop = Shop([1], [(1, (1,))], 1, [[(0,)], [(0,)], [(0,)]])
        self.assertEqual([next_state(shop, (day, ((0,),)), (0,), (0,))[0] for day in range(3)], [1, 2, 0])

    def test_one_day_in_the_week(self):
        self.assertEqual(next_state(lean(), (0, ((1, 0),)), (1,), (0,)), (0, ((1, 0),)))

    def test_pieces_at_the_last_places(self):
        self.assertEqual(next_state(lean(), (0, ((1, 2),)), (1,), (2,)), (0, ((2, 0),)))

    def test_an_order_that_cannot_be_met(self):
        self.assertIsNone(next_state(lean(), (0, ((0, 0),)), (1,), (2,)))
        self.assertIsNone(next_state(two_goods(), (0, EMPTY), (1, 0), (2, 0)))

    def test_a_choice_that_is_none(self):
        for choice in [(), (2,), (-1,), (0, 0)]:
            for order in [(0,), (2,)]:
                with self.assertRaises(BadChoice):
                    next_state(lean(), (0, ((0, 0),)), choice, order)
        with self.assertRaises(BadChoice):
            next_state(lean(0), (0, ((0, 0),)), (1,), (0,))

    def test_against_its_words(self):
        for shop, stock, day in cases(60):
            for choice in choices(shop):
                for order in shop.week[day]:
                    found = next_state(shop, (day, stock), choice, order)
                    self.assertEqual(found, after(shop, (day, stock), choice, order))


class ReachedTest(unittest.TestCase):
    """[12], the order in which states are met."""

    def test_ordinary(self):
        self.assertEqual(reached(two_goods(), EMPTY, 0), [
            (0, EMPTY),
            (1, EMPTY),
            (1, ((1, 0), (0,))),
            (1, ((2, 0), (0,))),
            (0, ((1, 0), (0,))),
            (0, ((2, 0), (0,))),
        ])

    def test_orders_as_in_the_list_of_the_day(self):
        week = [[(0,), (1,), (2,)]]
        shop = Shop([2], [(1, (3,))], 1, week)
        self.assertEqual(reached(shop, ((0, 0),), 0)[:4], [(0, ((k, 0),)) for k in [0, 3, 2, 1]])
        week[0].reverse()
        shop = Shop([2], [(1, (3,))], 1, week)
        self.assertEqual(reached(shop, ((0, 0),), 0)[:4], [(0, ((k, 0),)) for k in [0, 1, 2, 3]])

    def test_pieces_at_the_last_places(self):
        self.assertEqual(reached(lean(), ((0, 2),), 0), [(0, ((k,) + rest,)) for k, rest in [
            (0, (2,)), (2, (0,)), (0, (0,)), (3, (0,)), (1, (0,)),
        ]])

    def test_no_order_can_be_met(self):
        self.assertEqual(reached(steady(2), ((0,),), 0), [(0, ((0,),))])

    def test_one_state_that_comes_again(self):
        self.assertEqual(reached(steady(), ((0,),), 0), [(0, ((0,),))])

    def test_a_later_day_first(self):
        self.assertEqual(reached(two_goods(0), ((1, 0), (1,)), 1), [(1, ((1, 0), (1,))), (0, EMPTY)])

    def test_against_its_words(self):
        for shop, stock, day in cases(80, seed=2) + cases(40, seed=3, least=1, most=3):
            self.assertEqual(reached(shop, stock, day), all_reached(shop, (day, stock)))


class RankTest(unittest.TestCase):
    """[12] and [13]."""

    def test_a_safe_state(self):
        self.assertIsNone(days_to_beat(two_goods(), EMPTY, 0))
        self.assertIsNone(days_to_beat(two_goods(5), EMPTY, 1))
        self.assertIsNone(days_to_beat(steady(), ((0,),), 0))

    def test_beaten_within_1_day(self):
        self.assertEqual(days_to_beat(two_goods(4), EMPTY, 0), 1)
        self.assertEqual(days_to_beat(steady(2), ((0,),), 0), 1)
        self.assertEqual(days_to_beat(lean(), ((0, 0),), 0), 1)

    def test_beaten_later(self):
        self.assertEqual(days_to_beat(lean(), ((1, 0),), 0), 2)
        self.assertEqual(days_to_beat(lean(), ((2, 0),), 0), 3)

    def test_pieces_at_the_last_places(self):
        self.assertEqual(days_to_beat(lean(), ((0, 1),), 0), 2)
        self.assertEqual(days_to_beat(lean(), ((2, 2),), 0), 4)

    def test_a_budget_of_0(self):
        self.assertEqual(days_to_beat(lean(0), ((0, 0),), 0), 1)
        self.assertEqual(days_to_beat(lean(0), ((2, 0),), 0), 2)
        self.assertEqual(days_to_beat(lean(0), ((2, 2),), 0), 3)
        self.assertIsNone(days_to_beat(Shop([1], [(0, (1,))], 1, [[(1,)]], 0), ((0,),), 0))

    def test_a_week_whose_last_day_is_hard(self):
        shop = Shop([1], [(1, (1,))], 1, [[(0,)], [(1,)], [(2,)]])
        self.assertEqual([days_to_beat(shop, ((0,),), day) for day in range(3)], [3, 2, 1])

    def test_several_orders_beat_one_choice_and_none_the_other(self):
        # Cut by the first pattern, either order leaves too little of good 1 for the second day.
        shop = Shop([2, 2], [(1, (2, 1)), (1, (1, 3))], 1, [[(1, 0), (0, 1)], [(0, 5)]])
        start = (0, ((0, 0), (0, 0)))
        game = Game(shop, start[1], 0)
        self.assertEqual([next_state(shop, start, (1, 0), order) for order in shop.week[0]],
                         [(1, ((1, 0), (1, 0))), (1, ((2, 0), (0, 0)))])
        self.assertEqual([game.rank[(1, ((1, 0), (1, 0)))], game.rank[(1, ((2, 0), (0, 0)))]], [1, 1])
        self.assertIsNone(game.rank[start])
        self.assertIsNone(days_to_beat(shop, start[1], 0))
        self.assertEqual(game.told_choice(start), (0, 1))
        self.assertEqual([game.told_order(start, place) for place in range(3)], [(1, 0), None, (1, 0)])

    def test_against_their_words(self):
        seen = {}
        for shop, stock, day in cases(60, seed=4) + cases(30, seed=5, least=1, most=3):
            game = Game(shop, stock, day)
            judge = Judge(shop, len(game.states))
            for state in game.states:
                self.assertEqual(game.rank[state], judge.rank(state))
                self.assertEqual(days_to_beat(shop, state[1], state[0]), game.rank[state])
                seen[game.rank[state]] = True
        self.assertTrue(all(rank in seen for rank in [None, 1, 2, 3, 4, 5]), seen)

    def test_a_better_stock_is_beaten_no_sooner(self):
        for shop, stock, day in cases(40, seed=6):
            rank = Game(shop, stock, day).rank
            for one in rank:
                for other in rank:
                    if one[0] == other[0] and is_better(one[1], other[1]) and rank[one] is not None:
                        self.assertIsNotNone(rank[other])
                        self.assertGreaterEqual(rank[one], rank[other])


class GameTest(unittest.TestCase):
    """[14] and [15], the interface of Game."""

    def test_fields(self):
        shop = two_goods(8)
        game = Game(shop, EMPTY, 0)
        self.assertEqual(game.states, reached(shop, EMPTY, 0))
        self.assertEqual(game.choices, choices(shop))
        self.assertEqual(game.rank, {state: None for state in game.states})
        self.assertEqual([type(game.states), type(game.choices), type(game.rank)], [list, list, dict])

    def test_ranks_of_all_states(self):
        self.assertEqual(Game(lean(), ((2, 0),), 0).rank, {
            (0, ((2, 0),)): 3,
            (0, ((0, 0),)): 1,
            (0, ((1, 0),)): 2,
        })

    def test_the_first_choice_without_a_worth(self):
        game = Game(two_goods(), EMPTY, 0)
        self.assertEqual(game.told_choice((0, EMPTY)), (1, 0))
        self.assertEqual(game.told_choice((1, ((1, 0), (0,)))), (0, 1))
        # Here (0, 2) and more would do, too.
        self.assertEqual(game.told_choice((1, ((2, 0), (0,)))), (0, 1))

    def test_the_first_choice_with_the_greatest_worth(self):
        game = Game(lean(), ((2, 0),), 0)
        self.assertEqual(game.told_choice((0, ((2, 0),))), (1,))
        self.assertEqual(game.told_choice((0, ((1, 0),))), (1,))
        # Both choices are beaten within 1 day.
        self.assertEqual(game.told_choice((0, ((0, 0),))), (0,))

    def test_the_first_order_that_beats(self):
        game = Game(lean(), ((2, 0),), 0)
        # Behind no side both orders lead to the empty stock; behind one side both to a single old piece.
        self.assertEqual(game.told_order((0, ((2, 0),)), 0), (0,))
        self.assertEqual(game.told_order((0, ((2, 0),)), 1), (0,))
        # Here the order of two beats sooner than that of none.
        self.assertEqual(game.told_order((0, ((1, 0),)), 0), (2,))
        self.assertEqual(game.told_order((0, ((1, 0),)), 1), (2,))

    def test_orders_at_a_safe_state(self):
        game = Game(two_goods(), EMPTY, 0)
        self.assertEqual([game.told_order((0, EMPTY), place) for place in range(6)],
                         [(1, 0), (1, 0), (1, 0), None, None, None])

    def test_one_order(self):
        game = Game(steady(), ((0,),), 0)
        self.assertEqual(game.choices, [(0, 0), (0, 1), (0, 2), (1, 0), (1, 1), (2, 0)])
        self.assertEqual(game.told_choice((0, ((0,),))), (0, 1))
        self.assertEqual([game.told_order((0, ((0,),)), place) for place in range(6)],
                         [(2,), None, None, (2,), None, None])

    def test_against_their_words(self):
        for shop, stock, day in cases(40, seed=7) + cases(20, seed=8, least=1, most=3):
            game = Game(shop, stock, day)
            judge = Judge(shop, len(game.states))
            self.assertEqual(game.choices, all_choices(shop))
            self.assertEqual(list(game.rank), game.states)
            for state in game.states:
                self.assertEqual(game.told_choice(state), judge.told_choice(state))
                for place, choice in enumerate(game.choices):
                    self.assertEqual(game.told_order(state, place), judge.told_order(state, choice))

    def test_rule_choice(self):
        self.assertEqual(rule_choice(two_goods(), EMPTY, 0), (1, 0))
        self.assertEqual(rule_choice(lean(), ((2, 0),), 0), (1,))
        self.assertEqual(rule_choice(lean(0), ((2, 0),), 0), (0,))
        for shop, stock, day in cases(20, seed=9):
            game = Game(shop, stock, day)
            for state in game.states:
                self.assertEqual(rule_choice(shop, state[1], state[0]), game.told_choice(state))


class NothingChangesTest(unittest.TestCase):
    """[2], for games."""

    def test_a_shop_is_not_changed(self):
        for shop, stock, day in [(two_goods(8), EMPTY, 0), (lean(), ((2, 1),), 0)]:
            before = parts(shop)
            next_state(shop, (day, stock), choices(shop)[0], shop.week[day][0])
            reached(shop, stock, day), days_to_beat(shop, stock, day), rule_choice(shop, stock, day)
            game = Game(shop, stock, day)
            game.told_choice((day, stock)), game.told_order((day, stock), 0)
            with self.assertRaises(BadChoice):
                next_state(shop, (day, stock), (9,) * len(shop.patterns), shop.week[day][0])
            self.assertEqual(parts(shop), before)

    def test_lists_are_new(self):
        shop = two_goods()
        reached(shop, EMPTY, 0).clear()
        self.assertEqual(len(reached(shop, EMPTY, 0)), 6)
        game = Game(shop, empty_stock(shop), 0)
        game.states.clear(), game.choices.clear(), game.rank.clear()
        game = Game(shop, empty_stock(shop), 0)
        self.assertEqual((len(game.states), len(game.choices), len(game.rank)), (6, 6, 6))

    def test_a_game_keeps_none_of_the_lists(self):
        shop = lean()
        game = Game(shop, ((2, 0),), 0)
        shop.week[0].reverse()
        shop.patterns.clear()
        self.assertEqual(game.told_choice((0, ((2, 0),))), (1,))
        self.assertEqual(game.told_order((0, ((2, 0),)), 0), (0,))


if __name__ == "__main__":
    unittest.main()
