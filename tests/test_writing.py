"""Points 10, 11, 12 and 15: written forms, and that they tell what they were made of."""

import random
import unittest
from math import gcd

from oddkeep.games import check_game, check_strategy
from oddkeep.reading import read_game, read_number, read_strategy
from oddkeep.writing import write_game, write_number, write_place, write_strategy
from tests.helping import EVERY_KIND, ArgumentsStay, random_games

TEXT_OF_EVERY_KIND = "draw 1/2 1 1/3 2 1/6 0\nours 2 0 2\ntheirs 3 4\nreward 7/2 5\nfinish\nlose\n"


class Arguments(ArgumentsStay, unittest.TestCase):
    CALLS = [(write_place, [row], {}) for row in EVERY_KIND] + [
        (write_game, [EVERY_KIND], {}),
        (write_strategy, [[None, 0, 5]], {}),
    ]


class Numbers(unittest.TestCase):
    def test_ordinary_ones_and_edges(self):
        for number, word in [
            ((0, 1), "0"), ((1, 1), "1"), ((-1, 1), "-1"), ((-3, 1), "-3"), ((7, 2), "7/2"), ((-7, 2), "-7/2"),
            ((10, 1), "10"), ((100, 1), "100"), ((999, 1), "999"), ((-999, 1), "-999"), ((1, 999), "1/999"),
            ((-999, 998), "-999/998"), ((998, 999), "998/999"), ((1, 10), "1/10"), ((100, 7), "100/7"),
        ]:
            with self.subTest(word=word):
                self.assertEqual(write_number(number), word)

    def test_what_is_written_is_read(self):
        for d in (1, 2, 3, 7, 10, 12, 99, 100, 998, 999):
            for n in range(-999, 1000):
                if gcd(n, d) == 1:
                    self.assertEqual(read_number(write_number((n, d))), (n, d))


class Places(unittest.TestCase):
    def test_each_kind(self):
        self.assertEqual([write_place(row) for row in EVERY_KIND], TEXT_OF_EVERY_KIND.splitlines())

    def test_one_branch_and_six(self):
        self.assertEqual(write_place(("draw", [((1, 1), 29)])), "draw 1 29")
        self.assertEqual(write_place(("draw", [((1, 6), 3)] * 6)), "draw" + " 1/6 3" * 6)
        for side in ("ours", "theirs"):
            self.assertEqual(write_place((side, [0])), side + " 0")
            self.assertEqual(write_place((side, [5, 10, 0, 29, 5, 5])), side + " 5 10 0 29 5 5")

    def test_amounts(self):
        self.assertEqual(write_place(("reward", (0, 1), 0)), "reward 0 0")
        self.assertEqual(write_place(("reward", (999, 998), 12)), "reward 999/998 12")


class Games(unittest.TestCase):
    def test_a_line_for_each_place(self):
        self.assertEqual(write_game(EVERY_KIND), TEXT_OF_EVERY_KIND)
        self.assertEqual(write_game([("finish",)]), "finish\n")
        self.assertEqual(write_game([("lose",)] * 30), "lose\n" * 30)

    def test_games_of_each_kind_of_place_are_read_back(self):
        for row in EVERY_KIND:
            for game in ([row] * 6, [row] * 30, EVERY_KIND[:5] + [row], EVERY_KIND + [row] * 24):
                with self.subTest(row=row, many=len(game)):
                    self.assert_read_back(game)

    def test_games_of_one_place_and_of_thirty(self):
        for row in (("draw", [((1, 1), 0)]), ("draw", [((1, 6), 0)] * 6), ("ours", [0]), ("theirs", [0] * 6),
                    ("reward", (0, 1), 0), ("finish",), ("lose",)):
            self.assert_read_back([row])
        self.assert_read_back([("reward", (0, 1), 29)] + [("reward", (place, 31), 29 - place) for place in range(1, 30)])
        self.assert_read_back([("ours", [29 - place, place]) for place in range(30)])

    def test_many_games_are_read_back(self):
        for game in random_games("write", 200, most_places=30, most_branches=6):
            self.assert_read_back(game)

    def assert_read_back(self, game):
        check_game(game)
        text = write_game(game)
        self.assertEqual(read_game(text), game)
        self.assertEqual(write_game(read_game(text)), text)


class Strategies(unittest.TestCase):
    def test_one_line_with_a_word_for_each_place(self):
        self.assertEqual(write_strategy([1, None, None]), "1 - -\n")
        self.assertEqual(write_strategy([None]), "-\n")
        self.assertEqual(write_strategy([0]), "0\n")
        self.assertEqual(write_strategy([None, 5, 0, None, 3]), "- 5 0 - 3\n")
        self.assertEqual(write_strategy([None] * 30), "-" + " -" * 29 + "\n")

    def test_strategies_of_both_sides_are_read_back(self):
        chance = random.Random("strategies")
        for game in random_games("strategies", 200, most_places=30, most_branches=6):
            for side in ("ours", "theirs"):
                strategy = [chance.randrange(len(row[1])) if row[0] == side else None for row in game]
                check_strategy(game, side, strategy)
                text = write_strategy(strategy)
                self.assertEqual(read_strategy(game, side, text), strategy)
                self.assertEqual(write_strategy(read_strategy(game, side, text)), text)


if __name__ == "__main__":
    unittest.main()
