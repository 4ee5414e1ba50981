"""Stakes: the greatest sum of rewards of which we can be sure on the average."""

from math import lcm

from oddkeep.building import always_ends, copied
from oddkeep.chains import expected_rewards
from oddkeep.deciding import (
    best_alone, first_branches, improved, is_bound, is_strategy, mean_at, told_targets,
)
from oddkeep.errors import BadSize, NotEnding
from oddkeep.games import MOST_PLACES, targets, with_strategy
from oddkeep.linear import ONE, ZERO
from oddkeep.masses import ENDS
from oddkeep.numbers import number, plus


def stakes(game):
    """Return the stakes of the game, which always ends."""
    numbers, _, _ = stakes_paper(game)
    return numbers


def stakes_paper(game):
    """Return a right stakes paper of the game, which always ends: numbers, ours, theirs."""
    _check_ending(game)
    ours = first_branches(game, "ours")
    while True:
        told = with_strategy(game, "ours", ours)
        numbers, theirs = best_alone(told, "theirs", first_branches(told, "theirs"), expected_rewards)
        better = improved(game, ours, numbers)
        if better == ours:
            return (numbers, ours, theirs)
        ours = better


def is_stakes_paper(game, paper):
    """Tell whether the stakes paper is right."""
    numbers, ours, theirs = paper
    return are_upper_stakes(game, numbers, theirs=theirs) and are_lower_stakes(game, numbers, ours=ours)


def are_upper_stakes(game, numbers, *, theirs):
    """Tell whether the numbers are upper stakes with the strategy of theirs."""
    return is_strategy(game, "theirs", theirs) and _are_bounds(game, numbers, theirs, 1)


def are_lower_stakes(game, numbers, *, ours):
    """Tell whether the numbers are lower stakes with the strategy of ours."""
    return is_strategy(game, "ours", ours) and _are_bounds(game, numbers, ours, -1)


def _are_bounds(game, numbers, strategy, way):
    if len(numbers) != len(game):
        return False
    return all([
        is_bound(numbers[place], _stakes_ahead(game, place, numbers, strategy), way) for place in range(len(game))
    ])


def _stakes_ahead(game, place, numbers, strategy):
    row = game[place]
    if row[0] in ENDS:
        return [ZERO]
    if row[0] == "draw":
        return [mean_at(game, place, numbers)]
    if row[0] == "reward":
        return [plus(row[1], numbers[row[2]])]
    return [numbers[x] for x in told_targets(game, place, strategy)]


def stakes_of_steps(game, *, steps):
    """Return the stakes of so many steps."""
    # As in oddkeep.masses, whole numbers over one common denominator are quick.
    whole, scale = _denominators(game)
    parts = [0] * len(game)
    for _ in range(steps):
        whole *= scale
        parts = [_part_before(game, place, parts, whole, scale) for place in range(len(game))]
    return [number(part, whole) for part in parts]


def _denominators(game):
    """Return a common denominator of all amounts, and one of all chances."""
    amounts = 1
    chances = 1
    for row in game:
        if row[0] == "reward":
            amounts = lcm(amounts, row[1][1])
        elif row[0] == "draw":
            for chance, _ in row[1]:
                chances = lcm(chances, chance[1])
    return amounts, chances


def _part_before(game, place, parts, whole, scale):
    row = game[place]
    if row[0] in ENDS:
        return 0
    if row[0] == "draw":
        return sum([n * (scale // d) * parts[x] for (n, d), x in row[1]])
    if row[0] == "reward":
        n, d = row[1]
        return n * (whole // d) + parts[row[2]] * scale
    ahead = [parts[x] * scale for x in targets(game, place)]
    return max(ahead) if row[0] == "ours" else min(ahead)


def expected_stakes(game, *, ours, theirs):
    """Return, for each place, the expected stake if both sides play their strategies."""
    _check_ending(game)
    return expected_rewards(with_strategy(with_strategy(game, "ours", ours), "theirs", theirs))


def with_prizes(game):
    """Return the game in which each finish is put behind a reward of 1."""
    end = len(game)
    if end >= MOST_PLACES:
        raise BadSize()
    return [("reward", ONE, end) if row[0] == "finish" else row for row in copied(game)] + [("finish",)]


def _check_ending(game):
    if not always_ends(game):
        raise NotEnding()
