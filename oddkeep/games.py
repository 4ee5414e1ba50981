"""Games: their places, their strategies, and where they lead."""

from oddkeep.errors import BadChance, BadKind, BadNumber, BadSize, BadStrategy, BadTarget
from oddkeep.numbers import is_short, is_whole, total

MOST_PLACES = 30
MOST_BRANCHES = 6
SIDES = ("ours", "theirs")
LENGTHS = {"draw": 2, "ours": 2, "theirs": 2, "reward": 3, "finish": 1, "lose": 1}


def check_game(game):
    """Raise the first error of the game that is due, or return None."""
    if not 1 <= len(game) <= MOST_PLACES:
        raise BadSize()
    for row in game:
        _check_place(row, len(game))


def _check_place(row, many):
    kind = row[0]
    if kind not in LENGTHS:
        raise BadKind()
    if len(row) != LENGTHS[kind]:
        raise BadSize()
    if kind == "draw":
        _check_draw(row[1], many)
    elif kind in SIDES:
        _check_choice(row[1], many)
    elif kind == "reward":
        _check_reward(row[1], row[2], many)


def _check_draw(branches, many):
    _check_branch_count(branches)
    for chance, x in branches:
        if not is_short(chance):
            raise BadNumber()
        if chance[0] <= 0:
            raise BadChance()
        _check_target(x, many)
    if total([branch[0] for branch in branches]) != (1, 1):
        raise BadChance()


def _check_choice(places, many):
    _check_branch_count(places)
    for x in places:
        _check_target(x, many)


def _check_reward(amount, x, many):
    if not is_short(amount):
        raise BadNumber()
    if amount[0] < 0:
        raise BadChance()
    _check_target(x, many)


def _check_branch_count(branches):
    if not 1 <= len(branches) <= MOST_BRANCHES:
        raise BadSize()


def _check_target(x, many):
    if not is_whole(x) or not 0 <= x < many:
        raise BadTarget()


def check_strategy(game, side, strategy):
    """Raise the first error of the strategy that is due, or return None."""
    if len(strategy) != len(game):
        raise BadSize()
    for place in range(len(game)):
        if not _is_told_right(game[place], side, strategy[place]):
            raise BadStrategy(place)


def _is_told_right(row, side, told):
    if row[0] != side:
        return told is None
    return is_whole(told) and 0 <= told < len(row[1])


def targets(game, place):
    """Return the targets of the place, in the order of its branches."""
    row = game[place]
    if row[0] == "draw":
        return [branch[1] for branch in row[1]]
    if row[0] in SIDES:
        return list(row[1])
    if row[0] == "reward":
        return [row[2]]
    return []


def places_of(game, kind):
    """Return the places whose first element is the kind, ascending."""
    return [place for place in range(len(game)) if game[place][0] == kind]


def is_chain(game):
    """Tell whether no place of the game is one of a side."""
    return all([row[0] not in SIDES for row in game])


def with_strategy(game, side, strategy):
    """Return the game with the strategy of the side put in."""
    chosen = []
    for place in range(len(game)):
        row = game[place]
        if row[0] == side:
            chosen.append(("draw", [((1, 1), row[1][strategy[place]])]))
        else:
            chosen.append(_copied(row))
    return chosen


def exchanged(game):
    """Return the game with its sides exchanged."""
    return [_for_other_side(row) for row in game]


def _for_other_side(row):
    if row[0] == "ours":
        return ("theirs", list(row[1]))
    if row[0] == "theirs":
        return ("ours", list(row[1]))
    return _copied(row)


def _copied(row):
    # A place is a tuple, but its list could be changed through the copy.
    if row[0] == "draw" or row[0] in SIDES:
        return (row[0], list(row[1]))
    return row


def reached(game, place):
    """Return the places that are reached from the place, ascending."""
    found = {place}
    waiting = [place]
    while waiting:
        here = waiting.pop()
        for x in targets(game, here):
            if x not in found:
                found.add(x)
                waiting.append(x)
    return sorted(found)


def sources(game, place):
    """Return the places that lead to the place in one step, ascending."""
    return [source for source in range(len(game)) if place in targets(game, source)]
