"""What a side can do against a told strategy of the other side, and numbers that show it."""

from oddkeep.chains import chances
from oddkeep.errors import BadSize, BadStrategy
from oddkeep.games import check_strategy, places_of, targets, with_strategy
from oddkeep.linear import ONE, ZERO
from oddkeep.numbers import compare, times, total
from oddkeep.sure import keeping_away


def mean_at(game, place, numbers):
    """Return the mean of the numbers at a draw."""
    return total([times(chance, numbers[x]) for chance, x in game[place][1]])


def is_upper(game, numbers, *, theirs):
    """Tell whether the numbers are upper ones of the game with the strategy of theirs."""
    if not _are_numbers(game, numbers) or not is_strategy(game, "theirs", theirs):
        return False
    return all([_is_beyond(game, place, numbers, theirs, 1) for place in range(len(game))])


def is_lower(game, numbers, *, ours, ranks):
    """Tell whether the numbers are lower ones of the game with the strategy of ours and the ranks."""
    if not _are_numbers(game, numbers) or not is_strategy(game, "ours", ours):
        return False
    if not all([_is_beyond(game, place, numbers, ours, -1) for place in range(len(game))]):
        return False
    if len(ranks) != len(game):
        return False
    return all([_is_rank_right(game, place, numbers, ours, ranks) for place in range(len(game))])


def is_strategy(game, side, strategy):
    """Tell whether the list is a strategy of the side."""
    try:
        check_strategy(game, side, strategy)
    except (BadSize, BadStrategy):
        return False
    return True


def _are_numbers(game, numbers):
    return len(numbers) == len(game) and all([_can_stand(row[0], worth) for row, worth in zip(game, numbers)])


def _can_stand(kind, worth):
    if kind == "finish":
        return worth == ONE
    if kind == "lose":
        return worth == ZERO
    return compare(worth, ZERO) >= 0 and compare(worth, ONE) <= 0


def told_targets(game, place, strategy):
    """Return the target that the strategy tells, or all targets where it tells none."""
    ahead = targets(game, place)
    told = strategy[place]
    return ahead if told is None else [ahead[told]]


def _is_beyond(game, place, numbers, strategy, way):
    if game[place][0] == "draw":
        ahead = [mean_at(game, place, numbers)]
    else:
        ahead = [numbers[x] for x in told_targets(game, place, strategy)]
    return is_bound(numbers[place], ahead, way)


def is_bound(bound, ahead, way):
    """Tell whether the bound is at least (way 1) or at most (way -1) each of the numbers ahead."""
    return all([compare(bound, worth) != -way for worth in ahead])


def _is_rank_right(game, place, numbers, ours, ranks):
    kind = game[place][0]
    rank = ranks[place]
    if rank is None or numbers[place] == ZERO:
        return rank is None and numbers[place] == ZERO
    if kind == "finish":
        return rank == 0
    # From a rank of 0 or less no play goes down to a finish, so that no such rank is right at all places.
    lesser = [ranks[x] is not None and ranks[x] < rank for x in told_targets(game, place, ours)]
    return any(lesser) if kind == "draw" else all(lesser)


def least_ranks(game, numbers, *, ours):
    """Return the least ranks for the numbers and the strategy of ours, or None if none are right."""
    ranks = [0 if row[0] == "finish" else None for row in game]
    waiting = [place for place in range(len(game)) if ranks[place] is None and numbers[place] != ZERO]
    rank = 0
    while waiting:
        rank += 1
        given = [place for place in waiting if _gets_rank(game, place, ours, ranks)]
        if not given:
            return None
        for place in given:
            ranks[place] = rank
        waiting = [place for place in waiting if ranks[place] is None]
    return ranks


def _gets_rank(game, place, ours, ranks):
    ranked = [ranks[x] is not None for x in told_targets(game, place, ours)]
    return any(ranked) if game[place][0] == "draw" else all(ranked)


def least_against(game, ours):
    """Return the least chances of the strategy of ours, and a strategy of theirs that brings all places to them."""
    told = with_strategy(game, "ours", ours)
    # Better and better choices alone need not find the way round for ever, from which no finish is met.
    return best_alone(told, "theirs", keeping_away(told), _finishing)


def greatest_against(game, theirs):
    """Return the greatest chances of the strategy of theirs, and a strategy of ours that brings all places to them."""
    told = with_strategy(game, "theirs", theirs)
    return best_alone(told, "ours", first_branches(told, "ours"), _finishing)


def _finishing(chain):
    return chances(chain, places_of(chain, "finish"))


def first_branches(game, side):
    """Return the strategy of the side that tells branch 0 everywhere."""
    return [0 if row[0] == side else None for row in game]


def best_alone(game, side, first, numbers_of):
    """Better the first strategy of the only side of the game until this changes nothing more.

    Return the numbers of the chain that is made with the last strategy, and this strategy.
    """
    strategy = first
    while True:
        numbers = numbers_of(with_strategy(game, side, strategy))
        better = bettered(game, side, strategy, numbers)
        if better == strategy:
            return (numbers, strategy)
        strategy = better


def improved(game, ours, numbers):
    """Return the strategy of ours, improved by the numbers."""
    return bettered(game, "ours", ours, numbers)


def bettered(game, side, strategy, numbers):
    """Return the strategy with the best branch at each place of the side at which some branch is better."""
    changed = list(strategy)
    for place in places_of(game, side):
        ahead = [numbers[x] for x in targets(game, place)]
        best = best_branch(side, ahead)
        if ahead[best] != ahead[strategy[place]]:
            changed[place] = best
    return changed


def best_branch(side, ahead):
    """Return the first branch with the greatest (for ours) or the least (for theirs) of the numbers ahead."""
    way = 1 if side == "ours" else -1
    best = 0
    for branch, worth in enumerate(ahead):
        if compare(worth, ahead[best]) == way:
            best = branch
    return best
