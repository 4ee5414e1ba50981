"""Points 3 to 6: where games lead, strategies put in, sides exchanged."""

import unittest

from oddkeep.games import (
    check_game, exchanged, is_chain, places_of, reached, sources, targets, with_strategy,
)
from tests.helping import HALF, KINDS, ArgumentsStay

GAME = [
    ("ours", [1, 2, 2]),
    ("theirs", [3, 0, 3, 4]),
    ("draw", [((1, 3), 5), ((1, 2), 2), ((1, 6), 5)]),
    ("reward", (5, 2), 1),
    ("finish",),
    ("lose",),
    ("ours", [6]),
]
CHAIN = [("draw", [(HALF, 0), (HALF, 1)]), ("reward", (0, 1), 2), ("finish",), ("lose",)]


class Arguments(ArgumentsStay, unittest.TestCase):
    CALLS = [
        (targets, [GAME, 0], {}),
        (targets, [GAME, 1], {}),
        (targets, [GAME, 2], {}),
        (targets, [GAME, 3], {}),
        (targets, [GAME, 4], {}),
        (places_of, [GAME, "ours"], {}),
        (is_chain, [GAME], {}),
        (with_strategy, [GAME, "ours", [1, None, None, None, None, None, 0]], {}),
        (with_strategy, [GAME, "theirs", [None, 3, None, None, None, None, None]], {}),
        (exchanged, [GAME], {}),
        (reached, [GAME, 0], {}),
        (sources, [GAME, 2], {}),
    ]


class Targets(unittest.TestCase):
    def test_each_kind_of_place(self):
        told = [targets(GAME, place) for place in range(len(GAME))]
        self.assertEqual(told, [[1, 2, 2], [3, 0, 3, 4], [5, 2, 5], [1], [], [], [6]])

    def test_six_branches_in_their_order(self):
        order = [3, 1, 3, 0, 2, 1]
        rest = [("finish",), ("lose",), ("finish",)]
        self.assertEqual(targets([("ours", order)] + rest, 0), order)
        self.assertEqual(targets([("theirs", order)] + rest, 0), order)
        self.assertEqual(targets([("draw", [((1, 6), x) for x in order])] + rest, 0), order)


class PlacesOf(unittest.TestCase):
    def test_each_kind(self):
        told = [places_of(GAME, kind) for kind in KINDS]
        self.assertEqual(told, [[2], [0, 6], [1], [3], [4], [5]])

    def test_none_of_the_kind(self):
        self.assertEqual([places_of([("finish",)], kind) for kind in KINDS], [[], [], [], [], [0], []])

    def test_all_of_the_kind(self):
        self.assertEqual(places_of([("lose",)] * 30, "lose"), list(range(30)))


class IsChain(unittest.TestCase):
    def test_chains(self):
        for game in (CHAIN, [("finish",)], [("lose",)] * 30, [("reward", (1, 1), 0)]):
            with self.subTest(game=game):
                self.assertIs(is_chain(game), True)

    def test_games_with_a_place_of_a_side(self):
        for row in (("ours", [0]), ("theirs", [0])):
            for game in ([row], [row] + CHAIN, CHAIN + [row], CHAIN[:2] + [row] + CHAIN[2:]):
                with self.subTest(game=game):
                    self.assertIs(is_chain(game), False)
        self.assertIs(is_chain(GAME), False)

    def test_a_game_with_both_strategies_put_in(self):
        half = with_strategy(GAME, "ours", [0, None, None, None, None, None, 0])
        self.assertIs(is_chain(half), False)
        whole = with_strategy(half, "theirs", [None, 2, None, None, None, None, None])
        self.assertIs(is_chain(whole), True)


class WithStrategy(unittest.TestCase):
    def test_the_example_of_the_interface(self):
        game = [("ours", [1, 2]), ("finish",), ("lose",)]
        self.assertEqual(
            with_strategy(game, "ours", [1, None, None]),
            [("draw", [((1, 1), 2)]), ("finish",), ("lose",)],
        )

    def test_ours(self):
        for branch, x in ((0, 1), (1, 2), (2, 2)):
            made = with_strategy(GAME, "ours", [branch, None, None, None, None, None, 0])
            self.assertEqual(made[0], ("draw", [((1, 1), x)]))
            self.assertEqual(made[6], ("draw", [((1, 1), 6)]))
            self.assertEqual(made[1:6], GAME[1:6])
            self.assertEqual(len(made), len(GAME))
            self.assertIsNone(check_game(made))

    def test_theirs(self):
        for branch, x in ((0, 3), (1, 0), (2, 3), (3, 4)):
            made = with_strategy(GAME, "theirs", [None, branch, None, None, None, None, None])
            self.assertEqual(made[1], ("draw", [((1, 1), x)]))
            self.assertEqual(made[:1] + made[2:], GAME[:1] + GAME[2:])
            self.assertIsNone(check_game(made))

    def test_a_side_without_places(self):
        for side in ("ours", "theirs"):
            made = with_strategy(CHAIN, side, [None] * 4)
            self.assertEqual(made, CHAIN)
            self.assertIsNot(made, CHAIN)


class Exchanged(unittest.TestCase):
    def test_sides(self):
        self.assertEqual(exchanged(GAME), [
            ("theirs", [1, 2, 2]),
            ("ours", [3, 0, 3, 4]),
            ("draw", [((1, 3), 5), ((1, 2), 2), ((1, 6), 5)]),
            ("reward", (5, 2), 1),
            ("finish",),
            ("lose",),
            ("theirs", [6]),
        ])

    def test_twice(self):
        self.assertEqual(exchanged(exchanged(GAME)), GAME)

    def test_a_chain_stays_the_same(self):
        self.assertEqual(exchanged(CHAIN), CHAIN)

    def test_the_new_game_is_a_game(self):
        self.assertIsNone(check_game(exchanged(GAME)))


class Reached(unittest.TestCase):
    def test_each_place(self):
        told = [reached(GAME, place) for place in range(len(GAME))]
        self.assertEqual(told, [
            [0, 1, 2, 3, 4, 5],
            [0, 1, 2, 3, 4, 5],
            [2, 5],
            [0, 1, 2, 3, 4, 5],
            [4],
            [5],
            [6],
        ])

    def test_a_place_is_reached_from_itself(self):
        for row in (("finish",), ("lose",), ("ours", [0]), ("reward", (1, 1), 0)):
            self.assertEqual(reached([row], 0), [0])
        self.assertEqual(reached([("ours", [1]), ("finish",)], 0), [0, 1])
        self.assertEqual(reached([("finish",), ("theirs", [0])], 1), [0, 1])

    def test_long_ways(self):
        up = [("reward", (1, 1), place + 1) for place in range(29)] + [("finish",)]
        down = [("lose",)] + [("ours", [place]) for place in range(29)]
        for place in range(30):
            self.assertEqual(reached(up, place), list(range(place, 30)))
            self.assertEqual(reached(down, place), list(range(place + 1)))

    def test_the_order_of_any_two_places(self):
        for one in range(30):
            for other in range(30):
                game = [("lose",)] * 30
                game[one] = ("reward", (1, 1), other)
                game[other] = ("finish",)
                self.assertEqual(reached(game, one), sorted({one, other}))

    def test_round_ways(self):
        ring = [("theirs", [(place + 7) % 30]) for place in range(30)]
        for place in range(30):
            self.assertEqual(reached(ring, place), list(range(30)))


class Sources(unittest.TestCase):
    def test_each_place(self):
        told = [sources(GAME, place) for place in range(len(GAME))]
        self.assertEqual(told, [[1], [0, 3], [0, 2], [1], [1], [2], [6]])

    def test_a_place_that_is_named_twice_is_there_once(self):
        self.assertEqual(sources([("ours", [1, 1]), ("theirs", [1, 1, 1])], 1), [0, 1])

    def test_no_sources(self):
        self.assertEqual(sources([("finish",)], 0), [])
        self.assertEqual(sources([("ours", [0]), ("lose",)], 1), [])

    def test_sources_are_one_step_away(self):
        self.assertEqual(sources(CHAIN, 2), [1])

    def test_all_places(self):
        self.assertEqual(sources([("theirs", [4])] * 30, 4), list(range(30)))


if __name__ == "__main__":
    unittest.main()
