"""Papers that show that a rule never fails, or that orders beat every rule."""

from larderdays.games import Game, next_state
from larderdays.shops import choice_counts, choices, is_choice
from larderdays.steps import Met, Steps
from larderdays.stocks import is_better, is_stock


def safe_paper(shop, stock, day):
    """Return the safe paper of a state, or None if it is not safe."""
    game = Game(shop, stock, day)
    if game.rank[(day, stock)] is not None:
        return None
    met = Met((day, stock))
    paper = []
    while len(paper) < len(met.states):
        state = met.states[len(paper)]
        choice = game.told_choice(state)
        met.meet([next_state(shop, state, choice, order) for order in shop.week[state[0]]])
        paper.append((state, choice))
    return paper


def beating_paper(shop, stock, day):
    """Return the beating paper of a state, or None if it is safe."""
    game = Game(shop, stock, day)
    if game.rank[(day, stock)] is None:
        return None
    met = Met((day, stock))
    paper = []
    while len(paper) < len(met.states):
        state = met.states[len(paper)]
        orders = [game.told_order(state, place) for place in range(len(game.choices))]
        met.meet([next_state(shop, state, choice, order) for choice, order in zip(game.choices, orders)])
        paper.append((state, game.rank[state], orders))
    return paper


def are_states(shop, states):
    """Return whether these are states of the shop, all different."""
    return len(set(states)) == len(states) and all(is_state(shop, state) for state in states)


def is_state(shop, state):
    """Return whether a tuple of a number and a tuple of tuples of numbers is a state of the shop."""
    day, stock = state
    return 0 <= day < len(shop.week) and is_stock(shop, stock)


def verify_safe(shop, stock, day, paper):
    """Return whether a paper shows that a rule never fails from a state on."""
    states = [state for state, _ in paper]
    if not are_states(shop, states) or not all(is_choice(shop, choice) for _, choice in paper):
        return False
    needed = {(day, stock): True}
    steps = Steps(shop.week)
    for state, choice in paper:
        for after in steps.behind_orders(state, choice_counts(shop, choice)):
            needed[after] = True
    if None in needed:
        return False
    listed = {state: True for state in states}
    return all(state in listed or is_safe_by(states, state) for state in needed)


def is_safe_by(states, state):
    """Return whether a state has a better stock than some of these states of the same day."""
    day, stock = state
    return any(day == other_day and is_better(stock, other) for other_day, other in states)


def verify_beating(shop, stock, day, paper, days):
    """Return whether a paper shows that orders beat every rule within so many days from a state on."""
    gains = [choice_counts(shop, choice) for choice in choices(shop)]
    if not are_states(shop, [state for state, _, _ in paper]):
        return False
    if not all(is_beating_row(shop, row, len(gains)) for row in paper):
        return False
    # For each state that has to be in the paper, or one with a better stock, what its rank has to be below.
    bounds = {(day, stock): days + 1}
    steps = Steps(shop.week)
    for state, rank, orders in paper:
        for gain, order in zip(gains, orders):
            after = steps.behind(state, gain, order)
            if after is not None:
                bounds[after] = min(rank, bounds.get(after, rank))
    ranks = {state: rank for state, rank, _ in paper}
    return all(
        ranks.get(state, bound) < bound or is_beaten_by(ranks, state, bound) for state, bound in bounds.items()
    )


def is_beating_row(shop, row, many):
    """Return whether a row of a paper has a rank from 1 on, and so many orders of the day of its state."""
    (day, _), rank, orders = row
    return rank >= 1 and len(orders) == many and all(order in shop.week[day] for order in orders)


def is_beaten_by(ranks, state, bound):
    """Return whether some state of the same day with a lesser rank than the bound has a better stock."""
    day, stock = state
    return any(
        day == other_day and rank < bound and is_better(other, stock) for (other_day, other), rank in ranks.items()
    )
