"""Chains: chances of meeting places, closed classes, shares, and expected rewards."""

from oddkeep.errors import NotChain
from oddkeep.games import SIDES, reached
from oddkeep.linear import ONE, ZERO, solution_of
from oddkeep.masses import ENDS, chances_from, step_chance
from oddkeep.numbers import minus, plus, times


def check_chain(chain):
    """Raise NotChain with the first place of a side, or return None."""
    for place, row in enumerate(chain):
        if row[0] in SIDES:
            raise NotChain(place)


def chances(chain, goals):
    """Return, for each place, the chance of meeting at least one of the goals."""
    numbers = [ONE if place in goals else ZERO for place in range(len(chain))]
    unknown = [place for place in _leading_to(chain, goals) if place not in goals]
    return _with_means(chain, unknown, numbers, [ZERO] * len(chain))


def are_chances(chain, goals, numbers):
    """Tell whether the numbers are the chances of meeting the goals."""
    return numbers == chances(chain, goals)


def closed_classes(chain):
    """Return the closed classes, in the order of their first places."""
    around = [reached(chain, place) for place in range(len(chain))]
    found = []
    for place in range(len(chain)):
        # Each class is found at its first place alone.
        if around[place][0] == place and all([around[x] == around[place] for x in around[place]]):
            found.append(around[place])
    return found


def shares(chain, closed):
    """Return the shares of the places of a closed class."""
    if len(closed) == 1:
        return [ONE]
    rows = [([ONE] * len(closed), ONE)]
    for x in closed:
        factors = [step_chance(chain, place, x) for place in closed]
        at = closed.index(x)
        factors[at] = minus(factors[at], ONE)
        rows.append((factors, ZERO))
    return solution_of(len(closed), rows)


def expected_steps(chain):
    """Return, for each place, the expected number of steps, or None if it is infinite."""
    # Each step counts like a reward of 1 at the place that it leaves.
    return _expected(chain, [ZERO if row[0] in ENDS else ONE for row in chain])


def expected_rewards(chain):
    """Return, for each place, the expected reward, or None if it is infinite."""
    return _expected(chain, [row[1] if row[0] == "reward" else ZERO for row in chain])


def are_rewards(chain, numbers):
    """Tell whether the list is that of the expected rewards."""
    return numbers == expected_rewards(chain)


def _expected(chain, gains):
    """Return the mean of all gains of a play, or None if it is infinite, for each place."""
    paying = [place for place in range(len(chain)) if gains[place] != ZERO]
    endless = []
    for closed in closed_classes(chain):
        if any([place in paying for place in closed]):
            endless.extend(closed)
    infinite = _leading_to(chain, endless)
    numbers = [None if place in infinite else ZERO for place in range(len(chain))]
    unknown = [place for place in _leading_to(chain, paying) if place not in infinite]
    return _with_means(chain, unknown, numbers, gains)


def _leading_to(chain, places):
    """Return the places from which some of these places is reached, ascending."""
    return [place for place in range(len(chain)) if any([x in places for x in reached(chain, place)])]


def _with_means(chain, unknown, numbers, gains):
    """Return the numbers, with those of the unknown places put in.

    The number of an unknown place is its gain and the mean at its targets.
    """
    rows = [_mean_row(chain, place, unknown, numbers, gains[place]) for place in unknown]
    whole = list(numbers)
    for place, number in zip(unknown, solution_of(len(unknown), rows)):
        whole[place] = number
    return whole


def _mean_row(chain, place, unknown, numbers, gain):
    factors = [ONE if x == place else ZERO for x in unknown]
    bound = gain
    for chance, x in chances_from(chain, place):
        if x in unknown:
            at = unknown.index(x)
            factors[at] = minus(factors[at], chance)
        else:
            bound = plus(bound, times(chance, numbers[x]))
    return (factors, bound)
