"""What is sure, what has a chance, and what is almost sure."""

from oddkeep.games import places_of, targets


def sure_ranks(game):
    """Return the sure ranks, None where we cannot finish surely."""
    return _ranks_within(game, list(range(len(game))), ("ours",))


def sure_strategy(game):
    """Return the sure strategy of ours."""
    return _descending(game, sure_ranks(game))


def shows_sure(game, ranks, strategy):
    """Tell whether the ranks and the strategy show that we can finish surely."""
    ranked = [place for place in range(len(game)) if ranks[place] is not None]
    return all([_goes_down(game, place, ranks, strategy) for place in ranked])


def is_escape(game, places):
    """Tell whether the list of places is an escape."""
    return _is_kept(game, places, ("ours",))


def chance_ranks(game):
    """Return the chance ranks, None where we have no chance."""
    return _ranks_within(game, list(range(len(game))), ("ours", "draw"))


def no_chance(game):
    """Return the places of no chance, ascending."""
    return _unranked(chance_ranks(game))


def keeping_away(game):
    """Return the strategy of the others that keeps away from a finish."""
    away = no_chance(game)
    strategy = [None] * len(game)
    for place in places_of(game, "theirs"):
        inside = [x in away for x in targets(game, place)]
        strategy[place] = inside.index(True) if place in away else 0
    return strategy


def is_closed(game, places):
    """Tell whether the list of places is closed to us."""
    return _is_kept(game, places, ("ours", "draw", "reward"))


def stages(game):
    """Return the stages at which places fall out, None where we can finish almost surely."""
    found = [None] * len(game)
    inside = list(range(len(game)))
    stage = 0
    while True:
        ranks = _ranks_within(game, inside, ("ours", "draw"))
        fallen = [place for place in inside if ranks[place] is None]
        if not fallen:
            return found
        stage += 1
        for place in fallen:
            found[place] = stage
        inside = [place for place in inside if ranks[place] is not None]


def almost_sure(game):
    """Return the almost sure places, the almost sure strategy, and the almost sure ranks."""
    places = _unranked(stages(game))
    ranks = _ranks_within(game, places, ("ours", "draw"))
    return (places, _descending(game, ranks), ranks)


def shows_almost_sure(game, places, strategy, ranks):
    """Tell whether these show that we can finish almost surely from the places."""
    inside = [ranks[place] if place in places else None for place in range(len(game))]
    if any([inside[place] is None for place in places]):
        return False
    return all([_comes_down(game, place, inside, strategy) for place in places])


def _ranks_within(game, places, easy):
    """Give ranks, in rounds, to the places; those of an easy kind need one ranked target only."""
    ranks = [None] * len(game)
    given = [place for place in places_of(game, "finish") if place in places]
    rank = 0
    while given:
        for place in given:
            ranks[place] = rank
        rank += 1
        given = [place for place in places if ranks[place] is None and _gets_rank(game, place, places, ranks, easy)]
    return ranks


def _gets_rank(game, place, places, ranks, easy):
    kind = game[place][0]
    ahead = targets(game, place)
    ranked = [ranks[x] is not None for x in ahead]
    if kind == "draw" and not all([x in places for x in ahead]):
        return False
    if kind in easy:
        return any(ranked)
    return kind != "lose" and all(ranked)


def _unranked(ranks):
    return [place for place in range(len(ranks)) if ranks[place] is None]


def _is_lesser(ranks, x, place):
    return ranks[x] is not None and ranks[x] < ranks[place]


def _descending(game, ranks):
    """Return the strategy of ours with the first branches to lesser ranks, branch 0 where there is no rank."""
    strategy = [None] * len(game)
    for place in places_of(game, "ours"):
        strategy[place] = 0
        if ranks[place] is not None:
            lesser = [_is_lesser(ranks, x, place) for x in targets(game, place)]
            strategy[place] = lesser.index(True)
    return strategy


def _goes_down(game, place, ranks, strategy):
    """Tell whether the play surely goes from the place, if it is no finish, to a lesser rank."""
    kind = game[place][0]
    lesser = [_is_lesser(ranks, x, place) for x in targets(game, place)]
    if kind == "ours":
        return lesser[strategy[place]]
    # A finish has no targets, so that nothing is asked of it.
    return kind != "lose" and all(lesser)


def _comes_down(game, place, ranks, strategy):
    """Tell whether the play stays at ranked places, and has a chance of a lesser rank."""
    if game[place][0] != "draw":
        return _goes_down(game, place, ranks, strategy)
    ahead = targets(game, place)
    if any([ranks[x] is None for x in ahead]):
        return False
    return any([_is_lesser(ranks, x, place) for x in ahead])


def _is_kept(game, places, bound):
    """Tell whether plays can be kept in the places, if those of the bound kinds lead nowhere else at all."""
    return all([_stays(game, place, places, bound) for place in places])


def _stays(game, place, places, bound):
    kind = game[place][0]
    inside = [x in places for x in targets(game, place)]
    if kind in bound:
        return all(inside)
    return kind == "lose" or any(inside)
