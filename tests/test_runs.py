"""Points 20 to 22: runs, their chances, and plays by moves."""

import random
import unittest

from oddkeep.errors import BadMove, NotARun
from oddkeep.games import targets
from oddkeep.masses import masses_after
from oddkeep.numbers import total
from oddkeep.runs import chance_of, is_run, played, runs_of
from tests.helping import (
    EVERY_KIND, HALF, ArgumentsStay, as_number, fraction, moves_of, random_chains, random_games,
)

# The draw names place 2 twice.
CHAIN = [
    ("draw", [((1, 6), 2), ((1, 2), 1), ((1, 3), 2)]),
    ("reward", (5, 2), 0),
    ("draw", [((1, 4), 2), ((3, 4), 3)]),
    ("finish",),
    ("lose",),
]
# With each of these an element is wrong for the first time, at the step beside it.
WRONG = [
    ([-1], 0), ([5], 0), ([99, 0], 0), ([-1, -1], 0), ([-5, 2], 0), ([0, 0], 1), ([0, -1], 1), ([0, 5], 1),
    ([0, 3], 1), ([3, 3], 1), ([4, 4], 1), ([3, 0], 1), ([1, 1], 1), ([0, 1, 0, 1, 2], 4), ([0, 2, 2, 3, 3], 4),
    ([0, 2, 3, 99, -1], 3), ([2, 2, 2, 0, 9], 3), ([0, -4], 1), ([5, -1, 7], 0),
]


class Arguments(ArgumentsStay, unittest.TestCase):
    CALLS = [
        (is_run, [CHAIN, [0, 2, 3]], {}),
        (is_run, [CHAIN, [0, 3]], {}),
        (chance_of, [CHAIN, [0, 2, 3]], {}),
        (runs_of, [CHAIN, 0], {"steps": 0}),
        (runs_of, [CHAIN, 0], {"steps": 4}),
        (runs_of, [CHAIN, 3], {"steps": 4}),
        (played, [EVERY_KIND, 1, [0, 1]], {}),
        (played, [EVERY_KIND, 1, []], {}),
    ]


def random_walk(chance, game, steps):
    run = [chance.randrange(len(game))]
    while len(run) <= steps and targets(game, run[-1]):
        run.append(chance.choice(targets(game, run[-1])))
    return run


class IsRun(unittest.TestCase):
    def test_runs(self):
        for run in ([0], [3], [4], [0, 1], [0, 1, 0, 2], [2, 2, 2, 3], [0, 2, 3], [1, 0]):
            with self.subTest(run=run):
                self.assertIs(is_run(CHAIN, run), True)

    def test_the_empty_list(self):
        self.assertIs(is_run(CHAIN, []), False)

    def test_others(self):
        for run, _ in WRONG:
            with self.subTest(run=run):
                self.assertIs(is_run(CHAIN, run), False)

    def test_games_with_sides(self):
        self.assertIs(is_run(EVERY_KIND, [1, 2, 4]), True)
        self.assertIs(is_run(EVERY_KIND, [1, 0, 0, 1, 2, 3, 5]), True)
        self.assertIs(is_run(EVERY_KIND, [1, 1]), False)
        self.assertIs(is_run(EVERY_KIND, [2, 0]), False)

    def test_many_lists(self):
        chance = random.Random("runs")
        for game in random_games("runs", 300):
            run = [chance.randrange(-1, len(game) + 1) for _ in range(chance.randint(0, 3))]
            due = bool(run) and 0 <= run[0] < len(game)
            for at in range(1, len(run)):
                due = due and run[at] in targets(game, run[at - 1])
            self.assertIs(is_run(game, run), due)
            self.assertIs(is_run(game, random_walk(chance, game, 8)), True)


class ChanceOf(unittest.TestCase):
    def test_one_place(self):
        for place in range(5):
            self.assertEqual(chance_of(CHAIN, [place]), (1, 1))

    def test_a_place_that_is_named_twice(self):
        self.assertEqual(chance_of(CHAIN, [0, 2]), (1, 2))
        self.assertEqual(chance_of(CHAIN, [0, 2, 3]), (3, 8))

    def test_along_a_reward(self):
        self.assertEqual(chance_of(CHAIN, [1, 0]), (1, 1))
        self.assertEqual(chance_of(CHAIN, [0, 1, 0, 1, 0, 2, 2, 3]), (3, 128))

    def test_wrong_elements(self):
        for run, step in WRONG:
            with self.subTest(run=run):
                with self.assertRaises(NotARun) as caught:
                    chance_of(CHAIN, run)
                self.assertEqual(caught.exception.step, step)

    def test_it_is_the_product_of_the_steps(self):
        chance = random.Random("chances")
        for chain in random_chains("chances", 200):
            run = random_walk(chance, chain, 12)
            due = 1
            for here, x in zip(run, run[1:]):
                due = due * moves_of(chain, here)[x]
            self.assertEqual(chance_of(chain, run), as_number(due))


class RunsOf(unittest.TestCase):
    def test_the_example_of_the_interface(self):
        runs = runs_of([("draw", [(HALF, 0), (HALF, 1)]), ("finish",)], 0, steps=2)
        self.assertEqual(runs, [([0, 0, 0], (1, 4)), ([0, 0, 1], (1, 4)), ([0, 1], (1, 2))])

    def test_no_step(self):
        for place in range(5):
            self.assertEqual(runs_of(CHAIN, place, steps=0), [([place], (1, 1))])

    def test_ends_have_one_run(self):
        for steps in range(7):
            self.assertEqual(runs_of(CHAIN, 3, steps=steps), [([3], (1, 1))])
            self.assertEqual(runs_of(CHAIN, 4, steps=steps), [([4], (1, 1))])

    def test_runs_that_end_earlier_stand_between_others(self):
        self.assertEqual(runs_of(CHAIN, 0, steps=1), [([0, 1], (1, 2)), ([0, 2], (1, 2))])
        self.assertEqual(runs_of(CHAIN, 0, steps=3), [
            ([0, 1, 0, 1], (1, 4)),
            ([0, 1, 0, 2], (1, 4)),
            ([0, 2, 2, 2], (1, 32)),
            ([0, 2, 2, 3], (3, 32)),
            ([0, 2, 3], (3, 8)),
        ])
        chain = [("draw", [(HALF, 2), ((1, 4), 0), ((1, 4), 1)]), ("lose",), ("reward", (0, 1), 0)]
        self.assertEqual(runs_of(chain, 0, steps=2), [
            ([0, 0, 0], (1, 16)),
            ([0, 0, 1], (1, 16)),
            ([0, 0, 2], (1, 8)),
            ([0, 1], (1, 4)),
            ([0, 2, 0], (1, 2)),
        ])

    def test_many_chains(self):
        for chain in random_chains("all runs", 25, most_places=5):
            for place in range(len(chain)):
                for steps in range(7):
                    self.assert_all_runs(chain, place, steps)

    def assert_all_runs(self, chain, place, steps):
        found = runs_of(chain, place, steps=steps)
        runs = [run for run, _ in found]
        self.assertEqual(runs, sorted(runs))
        self.assertEqual(len({tuple(run) for run in runs}), len(runs))
        self.assertEqual(total([chance for _, chance in found]), (1, 1))
        for run, chance in found:
            self.assertEqual(run[0], place)
            self.assertTrue(len(run) == steps + 1 or len(run) <= steps and not targets(chain, run[-1]))
            self.assertEqual(chance, chance_of(chain, run))
            self.assertGreater(fraction(chance), 0)
        for x, mass in enumerate(masses_after(chain, place, steps=steps)):
            self.assertEqual(total([chance for run, chance in found if run[-1] == x]), mass)

    def test_six_steps_with_six_branches(self):
        chain = [("draw", [((1, 6), (place + step) % 12) for step in range(6)]) for place in range(12)]
        found = runs_of(chain, 3, steps=6)
        self.assertEqual(len(found), 6 ** 6)
        self.assertEqual(found[0], ([3, 3, 3, 3, 3, 3, 3], (1, 6 ** 6)))
        self.assertEqual([run for run, _ in found], sorted([run for run, _ in found]))


class Played(unittest.TestCase):
    def test_plays(self):
        for place, moves, run in [
            (0, [], [0]),
            (4, [], [4]),
            (0, [0], [0, 1]),
            (0, [2, 2, 1, 0, 0], [0, 0, 0, 2, 3, 5]),
            (1, [0], [1, 2]),
            (1, [2, 0, 0], [1, 2, 3, 5]),
            (2, [1], [2, 4]),
            (3, [0], [3, 5]),
        ]:
            with self.subTest(place=place, moves=moves):
                self.assertEqual(played(EVERY_KIND, place, moves), run)

    def test_wrong_moves(self):
        for place, moves, step in [
            (0, [-1], 0), (0, [3], 0), (1, [3], 0), (1, [-3], 0), (2, [2], 0), (3, [1], 0), (3, [-1], 0),
            (4, [0], 0), (4, [-1], 0), (5, [0], 0), (0, [99, -1], 0), (0, [2, 2, -1], 2), (0, [2, 0, 3, 9], 2),
            (2, [1, 0], 1), (2, [0, 0, 0], 2), (3, [0, 0], 1), (1, [0, 1, 0, 0], 2), (1, [0, 0, 1], 2),
        ]:
            with self.subTest(place=place, moves=moves):
                with self.assertRaises(BadMove) as caught:
                    played(EVERY_KIND, place, moves)
                self.assertEqual(caught.exception.step, step)

    def test_a_play_is_a_run(self):
        chance = random.Random("plays")
        for game in random_games("plays", 100):
            moves, here = [], 0
            while targets(game, here) and len(moves) < 9:
                moves.append(chance.randrange(len(targets(game, here))))
                here = targets(game, here)[moves[-1]]
            run = played(game, 0, moves)
            self.assertTrue(is_run(game, run))
            self.assertEqual((run[0], run[-1], len(run)), (0, here, len(moves) + 1))


if __name__ == "__main__":
    unittest.main()
