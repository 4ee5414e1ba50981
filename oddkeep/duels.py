"""Duels: the values of games, best strategies of both sides, and what shows that they are right."""

from oddkeep.deciding import (
    best_branch, first_branches, greatest_against, improved, is_lower, is_upper, least_against, least_ranks,
)
from oddkeep.games import places_of, targets
from oddkeep.numbers import minus


def values(game):
    """Return the values of all places."""
    _, numbers = _best_of_ours(game)
    return numbers


def answer_of(game):
    """Return a right answer for the game: numbers, ours, theirs, ranks."""
    ours, numbers = _best_of_ours(game)
    theirs = greedy(game, numbers, side="theirs")
    return (numbers, ours, theirs, least_ranks(game, numbers, ours=ours))


def check_answer(game, answer):
    """Tell whether the answer for the game is right."""
    numbers, ours, theirs, ranks = answer
    return is_upper(game, numbers, theirs=theirs) and is_lower(game, numbers, ours=ours, ranks=ranks)


def improvements(game, ours):
    """Return the tuples (strategy, its least chances) from the strategy of ours to a best one."""
    found = []
    strategy = list(ours)
    while True:
        numbers, _ = least_against(game, strategy)
        found.append((strategy, numbers))
        better = improved(game, strategy, numbers)
        if better == strategy:
            return found
        strategy = better


def _best_of_ours(game):
    return improvements(game, first_branches(game, "ours"))[-1]


def greedy(game, numbers, *, side):
    """Return the strategy of the side that tells the first of the branches with the best numbers."""
    strategy = [None] * len(game)
    for place in places_of(game, side):
        strategy[place] = best_branch(side, [numbers[x] for x in targets(game, place)])
    return strategy


def is_best(game, strategy, *, side):
    """Tell whether the strategy of the side is best."""
    if side == "ours":
        numbers, _ = least_against(game, strategy)
    else:
        numbers, _ = greatest_against(game, strategy)
    return numbers == values(game)


def gap(game, *, ours, theirs):
    """Return, for each place, the greatest chance of theirs less the least chance of ours."""
    greatest, _ = greatest_against(game, theirs)
    least, _ = least_against(game, ours)
    return [minus(most, some) for most, some in zip(greatest, least)]
