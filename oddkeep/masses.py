"""Steps: where plays are after so many steps, and what is secured by then.

The numbers of all places are kept as whole numbers over one common
denominator, since sums and comparisons of long numbers are quick this way.
"""

from math import gcd, lcm

from oddkeep.games import SIDES, targets
from oddkeep.numbers import number, total

ONE = (1, 1)
ENDS = ("finish", "lose")


def chances_from(chain, place):
    """Return the branches of a place of a chain as tuples (chance, x)."""
    row = chain[place]
    if row[0] == "draw":
        return list(row[1])
    return [(ONE, x) for x in targets(chain, place)]


def step_chance(chain, place, x):
    """Return the chance that the step from the place leads to x."""
    return total([chance for chance, y in chances_from(chain, place) if y == x])


def masses_after(chain, place, *, steps):
    """Return the masses of all places after so many steps from the place."""
    scale = _common_denominator(chain)
    parts = [0] * len(chain)
    parts[place] = 1
    whole = 1
    for _ in range(steps):
        parts, whole = _in_lowest_terms(_moved_on(chain, parts, scale), whole * scale)
    return [number(part, whole) for part in parts]


def finished_within(chain, *, steps):
    """Return, for each place, the chance to finish within so many steps."""
    return values_of_steps(chain, steps=steps)


def values_of_steps(game, *, steps):
    """Return the values of so many steps."""
    parts, whole = _parts_of_steps(game, steps)
    return [number(part, whole) for part in parts]


def good_moves(game, *, steps):
    """Return, for each place, the branches that are best for so many steps."""
    parts, _ = _parts_of_steps(game, steps - 1)
    return [_best_branches(game, place, parts) for place in range(len(game))]


def _best_branches(game, place, parts):
    kind = game[place][0]
    if kind not in SIDES:
        return []
    ahead = [parts[x] for x in targets(game, place)]
    best = max(ahead) if kind == "ours" else min(ahead)
    return [branch for branch in range(len(ahead)) if ahead[branch] == best]


def _common_denominator(game):
    scale = 1
    for row in game:
        if row[0] == "draw":
            for chance, _ in row[1]:
                scale = lcm(scale, chance[1])
    return scale


def _in_lowest_terms(parts, whole):
    shared = whole
    for part in parts:
        shared = gcd(shared, part)
    return [part // shared for part in parts], whole // shared


def _moved_on(chain, parts, scale):
    later = [0] * len(chain)
    for place in range(len(chain)):
        # A play that has ended stays where it is.
        for (n, d), x in chances_from(chain, place) or [(ONE, place)]:
            later[x] += parts[place] * n * (scale // d)
    return later


def _parts_of_steps(game, steps):
    scale = _common_denominator(game)
    parts = [1 if row[0] == "finish" else 0 for row in game]
    whole = 1
    for _ in range(steps):
        earlier = [_part_before(game, place, parts, scale) for place in range(len(game))]
        parts, whole = _in_lowest_terms(earlier, whole * scale)
    return parts, whole


def _part_before(game, place, parts, scale):
    row = game[place]
    if row[0] == "draw":
        return sum([n * (scale // d) * parts[x] for (n, d), x in row[1]])
    if row[0] in ENDS:
        return parts[place] * scale
    ahead = [parts[x] * scale for x in targets(game, place)]
    return min(ahead) if row[0] == "theirs" else max(ahead)
