"""Points 2, 7 and 8: the checks of games and of strategies."""

import copy
import unittest

from oddkeep.errors import (
    BadChance, BadKind, BadNumber, BadSize, BadStrategy, BadTarget, OddsError,
)
from oddkeep.games import check_game, check_strategy
from tests.helping import EVERY_KIND, HALF

ONE = (1, 1)
LARGE = 10 ** 40

GOOD_GAMES = [
    EVERY_KIND,
    [("finish",)],
    [("lose",)],
    [("ours", [0])],
    [("theirs", [0])],
    [("draw", [(ONE, 0)])],
    [("reward", (0, 1), 0)],
    [("reward", (999, 1), 0)],
    [("reward", (1, 999), 0)],
    [("ours", [0] * 6)],
    [("theirs", [1, 0, 1, 0, 1, 0]), ("finish",)],
    [("draw", [((1, 6), 0)] * 6)],
    [("draw", [((1, 999), 0), ((998, 999), 0)])],
    [("draw", [((1, 997), 0), ((996, 997), 1)]), ("lose",)],
    [("finish",)] * 30,
    [("ours", [29])] + [("theirs", [29])] * 28 + [("reward", (1, 1), 0)],
    [("draw", [(HALF, 0), (HALF, 29)])] * 30,
]

# What stands where the name of a place is due, in a game of three places.
NO_PLACES = [-1, 3, LARGE, -LARGE, True, False, None, "1", 1.0, (1,), [1]]

# What stands where a short number is due.
NO_SHORT_NUMBERS = [
    (2, 4), (2, 2), (0, 2), (1, 0), (1, -2), (-1, -2), (1000, 1), (-1000, 1), (1, 1000), (1000, 999),
    (999, 1000), (True, 1), (1, True), (1,), (1, 2, 3), (), [1, 2], "1/2", 1, 0, None, True, 0.5,
    (0.5, 1), (LARGE, 1), (1, LARGE),
]


def errors_at(row):
    """Games in which the place is the first, a middle and the last one."""
    return [
        [row, ("finish",), ("lose",)],
        [("ours", [0, 1, 2]), row, ("lose",)],
        [("draw", [(HALF, 1), (HALF, 2)]), ("theirs", [2, 1]), row],
    ]


class Checks(unittest.TestCase):
    def assert_error(self, kind, game):
        before = copy.deepcopy(game)
        with self.assertRaises(OddsError) as caught:
            check_game(game)
        self.assertIs(caught.exception.__class__, kind)
        self.assertEqual(game, before)

    def assert_error_at(self, kind, row):
        for game in errors_at(row):
            with self.subTest(game=game):
                self.assert_error(kind, game)


class GoodGames(unittest.TestCase):
    def test_nothing_is_raised(self):
        for game in GOOD_GAMES:
            with self.subTest(game=game):
                before = copy.deepcopy(game)
                self.assertIsNone(check_game(game))
                self.assertEqual(game, before)

    def test_every_number_of_places_and_of_branches(self):
        for many in range(1, 31):
            self.assertIsNone(check_game([("reward", (1, 2), many - 1)] * many))
        for many in range(1, 7):
            chance = (1, many)
            self.assertIsNone(check_game([("draw", [(chance, 0)] * many)]))
            self.assertIsNone(check_game([("ours", [0] * many)]))
            self.assertIsNone(check_game([("theirs", [0] * many)]))


class BadGames(Checks):
    def test_number_of_places(self):
        self.assert_error(BadSize, [])
        self.assert_error(BadSize, [("finish",)] * 31)
        self.assert_error(BadSize, [("finish",)] * 100)

    def test_kinds(self):
        for word in ("", "Draw", "draws", "our", "their", "win", "finished", "end", " lose"):
            for rest in ((), ([1],), ((1, 1), 1)):
                self.assert_error_at(BadKind, (word, *rest))

    def test_lengths_of_places(self):
        branches = [(ONE, 1)]
        for row in [("draw",), ("draw", branches, 1), ("ours",), ("ours", [1], [1]), ("theirs",),
                    ("theirs", [1], 1), ("reward",), ("reward", ONE), ("reward", ONE, 1, 1),
                    ("finish", 1), ("finish", []), ("lose", 1), ("lose", None)]:
            self.assert_error_at(BadSize, row)

    def test_number_of_branches(self):
        for many in (0, 7, 8, 30):
            self.assert_error_at(BadSize, ("draw", [((1, max(many, 1)), 1)] * many))
            self.assert_error_at(BadSize, ("ours", [1] * many))
            self.assert_error_at(BadSize, ("theirs", [1] * many))

    def test_chances_that_are_no_short_numbers(self):
        for chance in NO_SHORT_NUMBERS:
            self.assert_error_at(BadNumber, ("draw", [(chance, 1)]))
            self.assert_error_at(BadNumber, ("draw", [(HALF, 1), (chance, 1)]))

    def test_chances_that_are_not_greater_than_zero(self):
        for chance in ((0, 1), (-1, 1), (-1, 999), (-999, 1)):
            self.assert_error_at(BadChance, ("draw", [(chance, 1)]))
            self.assert_error_at(BadChance, ("draw", [(ONE, 1), (chance, 1)]))

    def test_a_sum_of_one_does_not_help_chances_below_zero(self):
        self.assert_error_at(BadChance, ("draw", [((3, 2), 1), ((-1, 2), 2)]))
        self.assert_error_at(BadChance, ("draw", [((0, 1), 1), ((1, 1), 2)]))

    def test_sums_of_chances(self):
        for branches in ([(HALF, 1)], [(ONE, 1), (ONE, 1)], [((2, 1), 1)], [((999, 1), 1)],
                         [(HALF, 1), ((1, 3), 2)], [(HALF, 1), ((1, 2), 2), ((1, 999), 0)],
                         [((998, 999), 1)], [((1, 6), 0)] * 5, [((1, 5), 0)] * 6):
            self.assert_error_at(BadChance, ("draw", branches))

    def test_targets(self):
        for x in NO_PLACES:
            self.assert_error_at(BadTarget, ("draw", [(ONE, x)]))
            self.assert_error_at(BadTarget, ("draw", [(HALF, 1), (HALF, x)]))
            self.assert_error_at(BadTarget, ("ours", [x]))
            self.assert_error_at(BadTarget, ("ours", [0, 1, 2, 0, 1, x]))
            self.assert_error_at(BadTarget, ("theirs", [x]))
            self.assert_error_at(BadTarget, ("theirs", [2, x, 2]))
            self.assert_error_at(BadTarget, ("reward", ONE, x))

    def test_targets_of_games_of_one_and_of_thirty_places(self):
        for row in (("ours", [1]), ("theirs", [-1]), ("reward", ONE, 1), ("draw", [(ONE, 1)])):
            self.assert_error(BadTarget, [row])
        for row in (("ours", [30]), ("theirs", [30]), ("reward", ONE, 30), ("draw", [(ONE, 30)])):
            self.assert_error(BadTarget, [("finish",)] * 29 + [row])

    def test_amounts(self):
        for amount in NO_SHORT_NUMBERS:
            self.assert_error_at(BadNumber, ("reward", amount, 1))
        for amount in ((-1, 1), (-1, 999), (-999, 1)):
            self.assert_error_at(BadChance, ("reward", amount, 1))


class FirstErrors(Checks):
    def test_the_number_of_places_is_before_the_places(self):
        self.assert_error(BadSize, [("win",)] * 31)
        self.assert_error(BadSize, [("finish",)] * 30 + [("ours", [31])])

    def test_an_earlier_place_is_before_a_later_one(self):
        bad_rows = [
            (BadKind, ("win",)),
            (BadSize, ("finish", 0)),
            (BadSize, ("ours", [])),
            (BadNumber, ("draw", [((2, 4), 0)])),
            (BadChance, ("draw", [(HALF, 0)])),
            (BadTarget, ("theirs", [9])),
            (BadNumber, ("reward", (1000, 1), 0)),
            (BadChance, ("reward", (-1, 1), 0)),
            (BadTarget, ("reward", (1, 1), True)),
        ]
        for kind, first in bad_rows:
            for _, second in bad_rows:
                with self.subTest(first=first, second=second):
                    self.assert_error(kind, [("lose",), first, second])

    def test_the_kind_is_before_the_length(self):
        self.assert_error_at(BadKind, ("win", 1, 2, 3, 4))

    def test_the_length_is_before_what_stands_in_the_place(self):
        self.assert_error_at(BadSize, ("reward", (-1, 1)))
        self.assert_error_at(BadSize, ("reward", (2, 4), 9, 9))
        self.assert_error_at(BadSize, ("ours", [9], 0))
        self.assert_error_at(BadSize, ("draw", [((2, 4), 9)], 0))

    def test_the_number_of_branches_is_before_the_branches(self):
        self.assert_error_at(BadSize, ("draw", [((2, 4), 9)] * 7))
        self.assert_error_at(BadSize, ("ours", [9] * 7))
        self.assert_error_at(BadSize, ("theirs", [True] * 7))

    def test_the_order_within_a_branch(self):
        self.assert_error_at(BadNumber, ("draw", [((-2, 4), 9)]))
        self.assert_error_at(BadNumber, ("draw", [((-1000, 1), 9)]))
        self.assert_error_at(BadChance, ("draw", [((-1, 2), 9)]))
        self.assert_error_at(BadChance, ("draw", [((0, 1), True)]))

    def test_an_earlier_branch_is_before_a_later_one(self):
        self.assert_error_at(BadTarget, ("draw", [(HALF, 9), ((2, 4), 1)]))
        self.assert_error_at(BadTarget, ("draw", [(HALF, 9), ((-1, 2), 1)]))
        self.assert_error_at(BadChance, ("draw", [((0, 1), 1), ((2, 4), 1)]))
        self.assert_error_at(BadChance, ("draw", [((0, 1), 1), (ONE, 9)]))
        self.assert_error_at(BadNumber, ("draw", [((2, 4), 1), ((0, 1), 1)]))
        self.assert_error_at(BadNumber, ("draw", [((2, 4), 1), (HALF, 9)]))

    def test_the_branches_are_before_the_sum(self):
        self.assert_error_at(BadTarget, ("draw", [(ONE, 0), (ONE, 9)]))
        self.assert_error_at(BadNumber, ("draw", [(ONE, 0), (ONE, 1), ((2, 4), 1)]))

    def test_the_order_within_a_reward(self):
        self.assert_error_at(BadNumber, ("reward", (-2, 4), 9))
        self.assert_error_at(BadChance, ("reward", (-1, 2), 9))


class Strategies(unittest.TestCase):
    game = [
        ("ours", [1, 2, 2]),
        ("theirs", [0, 3]),
        ("draw", [(HALF, 0), (HALF, 4)]),
        ("finish",),
        ("ours", [5]),
        ("reward", (1, 1), 0),
        ("lose",),
        ("theirs", [0, 1, 2, 3, 4, 5]),
    ]
    ours = [2, None, None, None, 0, None, None, None]
    theirs = [None, 1, None, None, None, None, None, 5]

    def assert_bad(self, place, side, strategy):
        before = list(strategy)
        with self.assertRaises(BadStrategy) as caught:
            check_strategy(self.game, side, strategy)
        self.assertEqual(caught.exception.place, place)
        self.assertEqual(strategy, before)

    def test_good_ones(self):
        game = copy.deepcopy(self.game)
        for branch in (0, 1, 2):
            strategy = [branch, None, None, None, 0, None, None, None]
            self.assertIsNone(check_strategy(self.game, "ours", strategy))
        for branch in range(6):
            strategy = [None, branch % 2, None, None, None, None, None, branch]
            self.assertIsNone(check_strategy(self.game, "theirs", strategy))
            self.assertEqual(strategy, [None, branch % 2, None, None, None, None, None, branch])
        self.assertEqual(self.game, game)

    def test_good_ones_of_a_side_without_places(self):
        for side in ("ours", "theirs"):
            self.assertIsNone(check_strategy([("finish",)], side, [None]))
            self.assertIsNone(check_strategy([("lose",)] * 30, side, [None] * 30))

    def test_lengths(self):
        for side, good in (("ours", self.ours), ("theirs", self.theirs)):
            for strategy in ([], good[:-1], good + [None], good + [0], good + good):
                with self.subTest(side=side, strategy=strategy):
                    with self.assertRaises(BadSize):
                        check_strategy(self.game, side, strategy)

    def test_the_length_is_before_the_places(self):
        with self.assertRaises(BadSize):
            check_strategy(self.game, "ours", [9] * 7)
        with self.assertRaises(BadSize):
            check_strategy(self.game, "ours", [9] * 9)

    def test_none_where_a_branch_is_due(self):
        self.assert_bad(0, "ours", [None, None, None, None, 0, None, None, None])
        self.assert_bad(4, "ours", [0] + [None] * 7)
        self.assert_bad(1, "theirs", [None] * 8)
        self.assert_bad(7, "theirs", [None, 0] + [None] * 6)

    def test_branches_that_are_not_there(self):
        for branch in (-1, 3, 4, -3, LARGE, -LARGE):
            self.assert_bad(0, "ours", [branch, None, None, None, 0, None, None, None])
        for branch in (-1, 1, 2):
            self.assert_bad(4, "ours", [0, None, None, None, branch, None, None, None])
        for branch in (-1, 2, 3):
            self.assert_bad(1, "theirs", [None, branch, None, None, None, None, None, 0])
        for branch in (-1, 6, 7):
            self.assert_bad(7, "theirs", [None, 0, None, None, None, None, None, branch])

    def test_true_and_false_are_no_branches(self):
        for branch in (True, False):
            self.assert_bad(0, "ours", [branch, None, None, None, 0, None, None, None])
            self.assert_bad(1, "theirs", [None, branch, None, None, None, None, None, 0])

    def test_numbers_where_none_is_due(self):
        for side, good in (("ours", self.ours), ("theirs", self.theirs)):
            for place in range(len(good)):
                if good[place] is None:
                    for branch in (0, 1, -1):
                        strategy = list(good)
                        strategy[place] = branch
                        self.assert_bad(place, side, strategy)

    def test_the_strategy_of_the_other_side(self):
        self.assert_bad(0, "ours", self.theirs)
        self.assert_bad(0, "theirs", self.ours)

    def test_the_field_is_the_first_wrong_place(self):
        self.assert_bad(0, "ours", [3, 0, None, None, None, None, None, None])
        self.assert_bad(1, "ours", [2, 0, None, None, None, None, None, None])
        self.assert_bad(4, "ours", [2, None, None, None, 1, 0, 0, 0])
        self.assert_bad(7, "ours", [2, None, None, None, 0, None, None, 0])


if __name__ == "__main__":
    unittest.main()
