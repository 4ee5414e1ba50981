"""Points 23 to 30: what is sure, what has a chance, what is almost sure."""

import random
import unittest
from itertools import chain as joined
from itertools import combinations

from oddkeep.chains import chances
from oddkeep.duels import values
from oddkeep.games import check_strategy, places_of, reached, targets, with_strategy
from oddkeep.masses import values_of_steps
from oddkeep.sure import (
    almost_sure, chance_ranks, is_closed, is_escape, keeping_away, no_chance, shows_almost_sure, shows_sure,
    stages, sure_ranks, sure_strategy,
)
from tests.helping import EVERY_KIND, HALF, ArgumentsStay, least_by_trying, random_games, strategies

EXAMPLE = [("draw", [(HALF, 0), (HALF, 1)]), ("finish",), ("theirs", [1, 3]), ("lose",)]

# One place in each round gets its sure rank: 8, 7, 6, 4, 2, 1. Places 3 and 5 lead to each other.
ROUNDS = [
    ("theirs", [1, 9]),
    ("ours", [9, 0, 2]),
    ("draw", [(HALF, 4), (HALF, 8)]),
    ("theirs", [4, 5]),
    ("theirs", [6, 7, 8]),
    ("ours", [5, 3]),
    ("reward", (1, 1), 7),
    ("ours", [1, 8, 6]),
    ("finish",),
    ("lose",),
]
# Places fall out one after another: 1 and the end, then 0, then 2, then 3.
STAGES = [
    ("draw", [(HALF, 5), (HALF, 1)]),
    ("theirs", [0, 4]),
    ("draw", [(HALF, 5), (HALF, 0)]),
    ("draw", [(HALF, 2), (HALF, 5)]),
    ("lose",),
    ("finish",),
    ("draw", [(HALF, 6), (HALF, 5)]),
    ("ours", [3, 7, 6]),
]


class Arguments(ArgumentsStay, unittest.TestCase):
    CALLS = [
        (call, [game], {})
        for call in (sure_ranks, sure_strategy, chance_ranks, no_chance, keeping_away, stages, almost_sure)
        for game in (EXAMPLE, EVERY_KIND, ROUNDS, STAGES)
    ] + [
        (shows_sure, [ROUNDS, sure_ranks(ROUNDS), sure_strategy(ROUNDS)], {}),
        (is_escape, [ROUNDS, [0, 5, 9]], {}),
        (is_closed, [ROUNDS, [0, 9]], {}),
        (shows_almost_sure, [STAGES, *almost_sure(STAGES)], {}),
    ]


def subsets(game):
    """All lists of places, ascending."""
    places = range(len(game))
    return [list(some) for some in joined.from_iterable(combinations(places, many) for many in range(len(game) + 1))]


def small_games(seed, count):
    return random_games(seed, count, most_places=5)


def always_finishes(game, place, way=()):
    """Tell whether every play from the place finishes, whatever is chosen and drawn."""
    if game[place][0] == "finish":
        return True
    if game[place][0] == "lose" or place in way:
        return False
    return all(always_finishes(game, x, (*way, place)) for x in targets(game, place))


def can_finish(game, place):
    return any(game[x][0] == "finish" for x in reached(game, place))


def never_fails(chain, place):
    """Tell whether the chance to finish is 1: wherever the play comes, it can still finish."""
    return all(can_finish(chain, x) for x in reached(chain, place))


def secured(game, holds):
    """The places at which one strategy of ours fulfills the condition, whatever strategy the others have."""
    found = set()
    for ours in strategies(game, "ours"):
        half = with_strategy(game, "ours", ours)
        chains = [with_strategy(half, "theirs", theirs) for theirs in strategies(game, "theirs")]
        found.update(place for place in range(len(game)) if all(holds(chain, place) for chain in chains))
    return sorted(found)


def ranked(ranks):
    return [place for place, rank in enumerate(ranks) if rank is not None]


def unranked(ranks):
    return [place for place, rank in enumerate(ranks) if rank is None]


def ranks_by_steps(game, side):
    """The least numbers of steps within which we finish surely, if the side makes the draws, too."""
    told = [(side, [x for _, x in row[1]]) if row[0] == "draw" else row for row in game]
    ranks = [None] * len(game)
    for steps in range(len(game) + 1):
        for place, value in enumerate(values_of_steps(told, steps=steps)):
            if value == (1, 1) and ranks[place] is None:
                ranks[place] = steps
    return ranks


class SureRanks(unittest.TestCase):
    def test_the_example_of_the_interface(self):
        self.assertEqual(sure_ranks(EXAMPLE), [None, 0, None, None])

    def test_round_by_round(self):
        self.assertEqual(sure_ranks(ROUNDS), [None, 5, 4, None, 3, None, 2, 1, 0, None])

    def test_some_and_all_targets_ranked(self):
        ends = [("finish",), ("lose",)]
        for row, rank in [
            (("ours", [1, 0]), 1), (("ours", [1]), None), (("theirs", [1, 0]), None), (("theirs", [0, 0]), 1),
            (("draw", [(HALF, 0), (HALF, 1)]), None), (("draw", [(HALF, 0), (HALF, 0)]), 1),
            (("draw", [(HALF, 0), (HALF, 2)]), None), (("reward", (1, 1), 0), 1), (("reward", (1, 1), 1), None),
            (("ours", [2]), None), (("theirs", [0, 2]), None), (("reward", (1, 1), 2), None), (("ours", [2, 0]), 1),
        ]:
            with self.subTest(row=row):
                self.assertEqual(sure_ranks(ends + [row]), [0, None, rank])

    def test_games_that_go_round_for_ever(self):
        for ring in ([("ours", [1]), ("theirs", [0])], [("reward", (0, 1), 1), ("draw", [((1, 1), 0)])]):
            self.assertEqual(sure_ranks(ring), [None, None])
            self.assertEqual(sure_ranks(ring + [("finish",), ("ours", [0, 2])]), [None, None, 0, 1])

    def test_the_ends(self):
        self.assertEqual(sure_ranks([("finish",)]), [0])
        self.assertEqual(sure_ranks([("lose",)]), [None])
        self.assertEqual(sure_ranks([("finish",), ("lose",), ("finish",)]), [0, None, 0])

    def test_a_long_way(self):
        self.assertEqual(sure_ranks([("theirs", [place + 1]) for place in range(29)] + [("finish",)]),
                         list(range(29, -1, -1)))

    def test_they_are_numbers_of_steps(self):
        for game in random_games("sure steps", 300):
            self.assertEqual(sure_ranks(game), ranks_by_steps(game, "theirs"))

    def test_exactly_the_places_with_a_rank_are_sure(self):
        for game in small_games("sure", 150):
            sure = set()
            for ours in strategies(game, "ours"):
                half = with_strategy(game, "ours", ours)
                sure.update(place for place in range(len(game)) if always_finishes(half, place))
            self.assertEqual(ranked(sure_ranks(game)), sorted(sure))


class SureStrategy(unittest.TestCase):
    def test_the_first_branch_of_a_lesser_rank(self):
        self.assertEqual(sure_strategy(ROUNDS), [None, 2, None, None, None, 0, None, 1, None, None])
        ends = [("finish",), ("ours", [0])]
        self.assertEqual(sure_strategy(ends + [("ours", [2, 3, 1, 0, 1]), ("lose",)]), [None, 0, 3, None])
        self.assertEqual(sure_strategy([("ours", [0, 1, 1]), ("ours", [0, 2, 2]), ("finish",)]), [1, 1, None])

    def test_branch_0_where_it_is_not_sure(self):
        self.assertEqual(sure_strategy([("ours", [1, 0]), ("lose",), ("ours", [0, 2])]), [0, None, 0])

    def test_none_at_other_places(self):
        self.assertEqual(sure_strategy(EXAMPLE), [None] * 4)
        self.assertEqual(sure_strategy([("theirs", [1, 2]), ("finish",), ("reward", (1, 1), 1)]), [None] * 3)

    def test_plays_finish_within_the_rank(self):
        for game in random_games("sure strategy", 200):
            ranks, strategy = sure_ranks(game), sure_strategy(game)
            check_strategy(game, "ours", strategy)
            told = ranks_by_steps(with_strategy(game, "ours", strategy), "theirs")
            self.assertEqual(told, ranks)
            for place in places_of(game, "ours"):
                lesser = [ranks[x] is not None and ranks[place] is not None and ranks[x] < ranks[place]
                          for x in targets(game, place)]
                self.assertEqual(strategy[place], lesser.index(True) if True in lesser else 0)


class ShowsSure(unittest.TestCase):
    game = [("ours", [5, 1]), ("draw", [(HALF, 2), (HALF, 4)]), ("theirs", [3, 4]), ("reward", (1, 1), 4),
            ("finish",), ("lose",)]
    ours = [1, None, None, None, None, None]
    ranks = [4, 3, 2, 1, 0, None]

    def shows(self, ranks, ours=(1, None, None, None, None, None)):
        return shows_sure(self.game, list(ranks), list(ours))

    def test_what_shows_it(self):
        self.assertIs(self.shows(self.ranks), True)
        self.assertIs(self.shows([9, 7, 5, 3, 2, None]), True)
        self.assertIs(self.shows([None, 3, 2, 1, 0, None]), True)
        self.assertIs(self.shows([None, None, None, None, 77, None]), True)
        self.assertIs(self.shows([None] * 6), True)
        self.assertIs(self.shows([None, None, None, 1, 0, None], [0] + [None] * 5), True)

    def test_a_place_that_loses_has_no_rank(self):
        self.assertIs(self.shows([4, 3, 2, 1, 0, 0]), False)
        self.assertIs(self.shows([None] * 5 + [5]), False)
        self.assertIs(shows_sure([("lose",)], [0], [None]), False)
        self.assertIs(shows_sure([("lose",)], [None], [None]), True)

    def test_the_told_branch(self):
        self.assertIs(self.shows(self.ranks, [0] + [None] * 5), False)
        self.assertIs(self.shows([3, 3, 2, 1, 0, None]), False)
        self.assertIs(self.shows([4, None, 2, 1, 0, None]), False)
        self.assertIs(self.shows([2, 3, 2, 1, 0, None]), False)

    def test_a_draw(self):
        self.assertIs(self.shows([4, 2, 2, 1, 0, None]), False)
        self.assertIs(self.shows([4, 3, None, 1, 0, None]), False)
        self.assertIs(shows_sure([("draw", [(HALF, 0), (HALF, 1)]), ("finish",)], [1, 0], [None, None]), False)

    def test_a_place_of_theirs(self):
        self.assertIs(self.shows([4, 3, 1, 1, 0, None]), False)
        self.assertIs(self.shows([4, 3, 2, None, 0, None]), False)
        self.assertIs(self.shows([4, 3, 2, 1, 2, None]), False)

    def test_a_reward(self):
        self.assertIs(self.shows([None, None, None, 0, 0, None]), False)
        self.assertIs(self.shows([None, None, None, 1, None, None]), False)
        self.assertIs(self.shows([None, None, None, 1, 2, None]), False)

    def test_what_was_worked_out_shows_it(self):
        for game in random_games("shows", 200):
            self.assertIs(shows_sure(game, sure_ranks(game), sure_strategy(game)), True)

    def test_whatever_shows_it_is_sure(self):
        chance = random.Random("any ranks")
        shown = 0
        for game in random_games("any ranks", 2000, most_places=4):
            ranks = [chance.choice((None, None, 0, 1, 2)) for _ in game]
            ours = chance.choice(strategies(game, "ours"))
            due = all(self.holds(game, ranks, ours, place) for place in ranked(ranks))
            self.assertIs(shows_sure(game, ranks, ours), due)
            if due:
                half = with_strategy(game, "ours", ours)
                self.assertTrue(all(always_finishes(half, place) for place in ranked(ranks)))
                shown += any(ranks)
        self.assertGreater(shown, 30)

    def holds(self, game, ranks, ours, place):
        lesser = [x for x in range(len(game)) if ranks[x] is not None and ranks[x] < ranks[place]]
        if game[place][0] == "ours":
            return game[place][1][ours[place]] in lesser
        if game[place][0] in ("finish", "lose"):
            return game[place][0] == "finish"
        return all(x in lesser for x in targets(game, place))


class Kept(unittest.TestCase):
    """Lists of places that are told to be kept, each condition by itself."""

    game = [("ours", [0, 1]), ("draw", [(HALF, 1), (HALF, 5)]), ("theirs", [2, 5]), ("reward", (1, 1), 3),
            ("reward", (1, 1), 5), ("finish",), ("lose",), ("ours", [7])]

    def test_escapes(self):
        for places in ([], [1], [2], [3], [6], [7], [0, 1], [1, 2, 3], [0, 1, 2, 3, 6, 7]):
            with self.subTest(places=places):
                self.assertIs(is_escape(self.game, places), True)

    def test_no_escapes(self):
        for places in ([5], [0], [4], [0, 2, 3], [1, 5], [3, 4, 7], [0, 1, 2, 3, 5, 6, 7], list(range(8))):
            with self.subTest(places=places):
                self.assertIs(is_escape(self.game, places), False)

    def test_closed_lists(self):
        for places in ([], [2], [3], [6], [7], [2, 3, 6, 7]):
            with self.subTest(places=places):
                self.assertIs(is_closed(self.game, places), True)

    def test_lists_that_are_not_closed(self):
        for places in ([0], [1], [4], [5], [0, 1], [2, 5], [2, 4], [3, 6, 7, 0], list(range(8))):
            with self.subTest(places=sorted(places)):
                self.assertIs(is_closed(self.game, sorted(places)), False)

    def test_all_escapes_are_parts_of_the_places_without_a_sure_rank(self):
        for game in small_games("escapes", 100):
            whole = unranked(sure_ranks(game))
            self.assertIs(is_escape(game, whole), True)
            for places in subsets(game):
                self.assertIs(is_escape(game, places), self.stays(game, places, ("ours",)))
                self.assertTrue(not is_escape(game, places) or set(places) <= set(whole))

    def test_all_closed_lists_are_parts_of_the_places_of_no_chance(self):
        for game in small_games("closed", 100):
            whole = no_chance(game)
            self.assertIs(is_closed(game, whole), True)
            for places in subsets(game):
                self.assertIs(is_closed(game, places), self.stays(game, places, ("ours", "draw", "reward")))
                self.assertTrue(not is_closed(game, places) or set(places) <= set(whole))

    def stays(self, game, places, bound):
        for place in places:
            kind, ahead = game[place][0], set(targets(game, place))
            if kind == "finish" or kind in bound and not ahead <= set(places):
                return False
            if kind != "lose" and not ahead & set(places):
                return False
        return True


class Chances(unittest.TestCase):
    def test_the_example_of_the_interface(self):
        self.assertEqual(chance_ranks(EXAMPLE), [1, 0, None, None])

    def test_some_and_all_targets_ranked(self):
        ends = [("finish",), ("lose",)]
        for row, rank in [
            (("ours", [1, 0]), 1), (("theirs", [1, 0]), None), (("theirs", [0, 0]), 1), (("theirs", [2, 0]), None),
            (("draw", [(HALF, 1), (HALF, 0)]), 1), (("draw", [(HALF, 2), (HALF, 0)]), 1),
            (("draw", [(HALF, 1), (HALF, 2)]), None), (("reward", (1, 1), 0), 1), (("reward", (1, 1), 1), None),
            (("reward", (1, 1), 2), None),
        ]:
            with self.subTest(row=row):
                self.assertEqual(chance_ranks(ends + [row]), [0, None, rank])
                self.assertEqual(no_chance(ends + [row]), [1] if rank else [1, 2])

    def test_round_by_round(self):
        game = [("draw", [(HALF, 5), (HALF, 1)]), ("theirs", [2, 3]), ("draw", [(HALF, 3), (HALF, 5)]),
                ("ours", [5, 4, 1]), ("finish",), ("lose",), ("theirs", [0, 6])]
        self.assertEqual(chance_ranks(game), [4, 3, 2, 1, 0, None, None])
        self.assertEqual(no_chance(game), [5, 6])
        self.assertEqual(keeping_away(game), [None, 0, None, None, None, None, 1])

    def test_the_strategy_that_keeps_away(self):
        game = [("theirs", [1, 2, 0, 2]), ("finish",), ("lose",), ("theirs", [1, 1]), ("theirs", [4, 2])]
        self.assertEqual(no_chance(game), [0, 2, 4])
        self.assertEqual(keeping_away(game), [1, None, None, 0, 0])
        self.assertEqual(keeping_away([("theirs", [1, 0]), ("finish",)]), [1, None])
        self.assertEqual(keeping_away([("ours", [0]), ("lose",)]), [None, None])

    def test_they_are_numbers_of_steps(self):
        for game in random_games("chance steps", 300):
            self.assertEqual(chance_ranks(game), ranks_by_steps(game, "ours"))
            self.assertEqual(no_chance(game), unranked(chance_ranks(game)))

    def test_exactly_the_places_with_a_rank_have_a_chance(self):
        for game in small_games("chance", 150):
            self.assertEqual(ranked(chance_ranks(game)), secured(game, can_finish))

    def test_keeping_away_keeps_away(self):
        for game in random_games("away", 300):
            theirs, places = keeping_away(game), no_chance(game)
            check_strategy(game, "theirs", theirs)
            half = with_strategy(game, "theirs", theirs)
            self.assertFalse(any(can_finish(half, place) for place in places))
            for place in places_of(game, "theirs"):
                inside = [x in places for x in targets(game, place)]
                self.assertEqual(theirs[place], inside.index(True) if place in places else 0)


class Stages(unittest.TestCase):
    def test_more_than_one_set(self):
        self.assertEqual(stages(STAGES), [2, 1, 3, 4, 1, None, None, None])
        self.assertEqual(almost_sure(STAGES), (
            [5, 6, 7], [None] * 7 + [2], [None, None, None, None, None, 0, 1, 2],
        ))

    def test_the_example_of_the_interface(self):
        self.assertEqual(stages(EXAMPLE), [None, None, 1, 1])
        self.assertEqual(almost_sure(EXAMPLE), ([0, 1], [None, None, None, None], [1, 0, None, None]))

    def test_none_falls_out(self):
        game = [("ours", [0, 1]), ("draw", [(HALF, 2), (HALF, 0)]), ("finish",)]
        self.assertEqual(stages(game), [None] * 3)
        self.assertEqual(almost_sure(game), ([0, 1, 2], [1, None, None], [2, 1, 0]))

    def test_all_fall_out(self):
        game = [("ours", [1]), ("lose",), ("theirs", [0, 2])]
        self.assertEqual(stages(game), [1, 1, 1])
        self.assertEqual(almost_sure(game), ([], [0, None, None], [None] * 3))

    def test_ours_need_not_be_drawn_out(self):
        game = [("ours", [1, 2]), ("draw", [(HALF, 3), (HALF, 4)]), ("draw", [(HALF, 0), (HALF, 3)]), ("finish",),
                ("lose",)]
        self.assertEqual(stages(game), [None, 2, None, None, 1])
        self.assertEqual(almost_sure(game), ([0, 2, 3], [1, None, None, None, None], [2, None, 1, 0, None]))

    def test_the_first_branch_of_a_lesser_rank_among_the_places(self):
        game = [("ours", [4, 5, 0, 2, 1]), ("draw", [(HALF, 3), (HALF, 0)]), ("reward", (1, 1), 3), ("finish",),
                ("lose",), ("draw", [(HALF, 3), (HALF, 4)]), ("ours", [5, 4])]
        places, strategy, ranks = almost_sure(game)
        self.assertEqual(places, [0, 1, 2, 3])
        self.assertEqual(ranks, [2, 1, 1, 0, None, None, None])
        self.assertEqual(strategy, [3, None, None, None, None, None, 0])

    def test_exactly_the_places_that_never_fall_out_are_almost_sure(self):
        for game in small_games("almost", 200):
            self.assertEqual(unranked(stages(game)), secured(game, never_fails))

    def test_the_strategy_finishes_almost_surely(self):
        for game in small_games("almost strategy", 200):
            places, ours, ranks = almost_sure(game)
            check_strategy(game, "ours", ours)
            self.assertEqual(places, unranked(stages(game)))
            self.assertEqual(ranked(ranks), places)
            self.assertIs(shows_almost_sure(game, places, ours, ranks), True)
            half = with_strategy(game, "ours", ours)
            for theirs in strategies(game, "theirs"):
                self.assert_finished(with_strategy(half, "theirs", theirs), places)
            for place in places_of(game, "ours"):
                lesser = [x in places and place in places and ranks[x] < ranks[place] for x in targets(game, place)]
                self.assertEqual(ours[place], lesser.index(True) if place in places else 0)

    def assert_finished(self, chain, places):
        told = chances(chain, places_of(chain, "finish"))
        self.assertEqual([told[place] for place in places], [(1, 1)] * len(places))

    def test_the_others_have_an_answer_where_a_place_falls_out(self):
        for game in small_games("answers", 100):
            fallen = ranked(stages(game))
            for ours in strategies(game, "ours"):
                least = least_by_trying(game, ours)
                self.assertTrue(all(least[place] < 1 for place in fallen))

    def test_sure_places_are_almost_sure_and_these_have_a_chance(self):
        for game in random_games("parts", 300):
            self.assertLessEqual(set(ranked(sure_ranks(game))), set(almost_sure(game)[0]))
            self.assertLessEqual(set(almost_sure(game)[0]), set(ranked(chance_ranks(game))))

    def test_the_places_of_value_1_and_of_value_0(self):
        for game in random_games("values", 300):
            numbers = values(game)
            self.assertEqual([place for place, number in enumerate(numbers) if number == (1, 1)], almost_sure(game)[0])
            self.assertEqual([place for place, number in enumerate(numbers) if number == (0, 1)], no_chance(game))


class ShowsAlmostSure(unittest.TestCase):
    game = [("ours", [5, 1]), ("draw", [(HALF, 0), (HALF, 2)]), ("theirs", [3, 4]), ("reward", (1, 1), 4),
            ("finish",), ("lose",), ("draw", [(HALF, 4), (HALF, 6)])]

    def shows(self, places, ranks, branch=1):
        return shows_almost_sure(self.game, places, [branch] + [None] * 6, ranks)

    def test_what_shows_it(self):
        self.assertIs(self.shows([0, 1, 2, 3, 4, 6], [4, 3, 2, 1, 0, None, 1]), True)
        self.assertIs(self.shows([0, 1, 2, 3, 4], [9, 8, 7, 6, 5, None, None]), True)
        self.assertIs(self.shows([2, 3, 4], [4, 3, 2, 1, 0, None, 1]), True)
        self.assertIs(self.shows([4, 6], [None, None, None, None, 3, 0, 4], 0), True)
        self.assertIs(self.shows([], [None] * 7), True)
        self.assertIs(self.shows([], [0] * 7), True)

    def test_each_place_of_the_list_has_a_rank(self):
        for place in range(5):
            ranks = [4, 3, 2, 1, 0, None, None]
            ranks[place] = None
            self.assertIs(self.shows([0, 1, 2, 3, 4], ranks), False)
        self.assertIs(self.shows([4], [None] * 7), False)

    def test_a_place_that_loses(self):
        self.assertIs(self.shows([4, 5], [None, None, None, None, 0, 1, None]), False)
        self.assertIs(self.shows([5], [None, None, None, None, None, 0, None]), False)

    def test_the_told_branch(self):
        self.assertIs(self.shows([0, 1, 2, 3, 4], [4, 3, 2, 1, 0, None, None], 0), False)
        self.assertIs(self.shows([0, 1, 2, 3, 4], [3, 3, 2, 1, 0, None, None]), False)
        self.assertIs(self.shows([0, 2, 3, 4], [4, 3, 2, 1, 0, None, None]), False)
        self.assertIs(self.shows([0, 2, 3, 4], [4, None, 2, 1, 0, None, None]), False)

    def test_a_draw(self):
        self.assertIs(self.shows([1, 2, 3, 4], [4, 3, 2, 1, 0, None, None]), False)
        self.assertIs(self.shows([0, 1, 2, 3, 4], [4, 2, 2, 1, 0, None, None]), False)
        self.assertIs(self.shows([0, 1], [4, 3, 2, 1, 0, None, None]), False)
        self.assertIs(self.shows([6], [None] * 6 + [1]), False)
        self.assertIs(self.shows([4, 6], [None, None, None, None, 1, None, 1]), False)
        self.assertIs(self.shows([6], [None, None, None, None, 0, None, 1]), False)

    def test_a_place_of_theirs(self):
        self.assertIs(self.shows([2, 4], [None, None, 2, 1, 0, None, None]), False)
        self.assertIs(self.shows([2, 3, 4], [None, None, 1, 1, 0, None, None]), False)
        self.assertIs(self.shows([2, 3], [None, None, 2, 1, 0, None, None]), False)

    def test_a_reward(self):
        self.assertIs(self.shows([3, 4], [None, None, None, 1, 1, None, None]), False)
        self.assertIs(self.shows([3], [None, None, None, 1, 0, None, None]), False)

    def test_whatever_shows_it_finishes_almost_surely(self):
        chance = random.Random("almost any")
        shown = 0
        for game in random_games("almost any", 2000, most_places=4):
            ranks = [chance.choice((None, 0, 0, 1, 1, 2)) for _ in game]
            places = [place for place in range(len(game)) if chance.random() < 0.5]
            ours = chance.choice(strategies(game, "ours"))
            due = all(self.holds(game, places, ranks, ours, place) for place in places)
            self.assertIs(shows_almost_sure(game, places, ours, ranks), due)
            if due:
                half = with_strategy(game, "ours", ours)
                for theirs in strategies(game, "theirs"):
                    chain = with_strategy(half, "theirs", theirs)
                    self.assertTrue(all(never_fails(chain, place) for place in places))
                shown += bool(places)
        self.assertGreater(shown, 50)

    def holds(self, game, places, ranks, ours, place):
        if ranks[place] is None or game[place][0] in ("finish", "lose"):
            return ranks[place] is not None and game[place][0] == "finish"
        lesser = [x for x in places if ranks[x] is not None and ranks[x] < ranks[place]]
        ahead = targets(game, place)
        if game[place][0] == "ours":
            return ahead[ours[place]] in lesser
        if game[place][0] == "draw":
            return all(x in places for x in ahead) and any(x in lesser for x in ahead)
        return all(x in lesser for x in ahead)


if __name__ == "__main__":
    unittest.main()
