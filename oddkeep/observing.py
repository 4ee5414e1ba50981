"""Chains of which a condition is known to be fulfilled."""

from oddkeep.chains import chances, expected_rewards
from oddkeep.errors import NeverSo
from oddkeep.games import places_of
from oddkeep.linear import ONE, ZERO
from oddkeep.numbers import divided, minus, times
from oddkeep.runs import chance_of


def chances_of(chain, condition):
    """Return, for each place, the chance that a play from there fulfills the condition."""
    if condition[0] == "never":
        return [minus(ONE, met) for met in chances(chain, condition[1])]
    return chances(chain, places_of(chain, condition[0]))


def conditioned(chain, condition):
    """Return the chain as it is if the condition is fulfilled."""
    likely = chances_of(chain, condition)
    return [_place_given(chain, place, condition, likely) for place in range(len(chain))]


def _place_given(chain, place, condition, likely):
    row = chain[place]
    kind = row[0]
    if likely[place] == ZERO:
        # A finish that ends a play against the condition stays, unless it must never be met.
        return row if kind == "finish" and condition[0] != "never" else ("lose",)
    if kind != "draw":
        return row
    ahead = [(chance, x) for chance, x in row[1] if likely[x] != ZERO]
    return ("draw", [(divided(times(chance, likely[x]), likely[place]), x) for chance, x in ahead])


def run_chance_given(chain, run, *, condition):
    """Return the chance that a play goes along the run, given the condition."""
    chance = chance_of(chain, run)
    likely = chances_of(chain, condition)
    first = run[0]
    if likely[first] == ZERO:
        raise NeverSo(first)
    if any([likely[place] == ZERO for place in run]):
        return ZERO
    return divided(times(chance, likely[run[-1]]), likely[first])


def rewards_given(chain, place, *, condition):
    """Return the expected rewards from the place, given the condition, or None if they are infinite."""
    if chances_of(chain, condition)[place] == ZERO:
        raise NeverSo(place)
    return expected_rewards(conditioned(chain, condition))[place]
