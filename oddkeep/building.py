"""Games that are put together or turned about, and games that always end."""

from oddkeep.errors import BadSize
from oddkeep.games import MOST_PLACES, SIDES, exchanged, targets
from oddkeep.masses import ONE


def one_after(first, second):
    """Return the game of the first one, and of the second one wherever the first one finishes."""
    begin = len(first)
    _check_many(begin + len(second))
    leading = [("draw", [(ONE, begin)]) if row[0] == "finish" else _moved_place(row, 0) for row in first]
    return leading + _moved_up(second, begin)


def choice_between(games, *, side):
    """Return the game in which the side chooses one of the games."""
    begins, places = _side_by_side(games)
    return [(side, begins)] + places


def mixture(parts):
    """Return the game that goes on with one of the games, each with its chance."""
    begins, places = _side_by_side([game for _, game in parts])
    return [("draw", [(chance, begin) for (chance, _), begin in zip(parts, begins)])] + places


def turned_about(game):
    """Return the game with its sides exchanged, and with its ends exchanged."""
    other = {"finish": ("lose",), "lose": ("finish",)}
    return [other.get(row[0], row) for row in exchanged(game)]


def always_ends(game):
    """Tell whether every play ends with chance 1, whatever both sides choose."""
    kept = list(range(len(game)))
    while True:
        staying = [place for place in kept if _can_stay(game, place, kept)]
        if staying == kept:
            return not kept
        kept = staying


def copied(game):
    """Return the same game, which shares no list with the given one."""
    return _moved_up(game, 0)


def _side_by_side(games):
    """Return the beginnings and the places of the games, behind one place that is still to be made."""
    _check_many(1 + sum([len(game) for game in games]))
    begins = []
    places = []
    for game in games:
        begins.append(1 + len(places))
        places.extend(_moved_up(game, begins[-1]))
    return begins, places


def _check_many(many):
    if many > MOST_PLACES:
        raise BadSize()


def _moved_up(game, by):
    return [_moved_place(row, by) for row in game]


def _moved_place(row, by):
    if row[0] == "draw":
        return ("draw", [(chance, x + by) for chance, x in row[1]])
    if row[0] in SIDES:
        return (row[0], [x + by for x in row[1]])
    if row[0] == "reward":
        return ("reward", row[1], row[2] + by)
    return row


def _can_stay(game, place, kept):
    inside = [x in kept for x in targets(game, place)]
    # A reward has one target alone, and an end has none, so that no play is kept there.
    return all(inside) if game[place][0] == "draw" else any(inside)
