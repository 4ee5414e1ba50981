"""What the document promises across the files of the program."""

import importlib
import random
import unittest
from fractions import Fraction
from pathlib import Path

import oddkeep
from oddkeep import errors
from oddkeep.alike import chance_into, is_alike_division, quotient, rounds, telling_test
from oddkeep.building import always_ends, choice_between, mixture, one_after, turned_about
from oddkeep.chains import chances, check_chain, closed_classes, expected_rewards, expected_steps, shares
from oddkeep.deciding import greatest_against, least_against
from oddkeep.duels import answer_of, check_answer, gap, values
from oddkeep.games import check_game, exchanged, is_chain, places_of, reached, with_strategy
from oddkeep.masses import finished_within, good_moves, masses_after, values_of_steps
from oddkeep.numbers import is_number, total
from oddkeep.observing import chances_of, conditioned, rewards_given, run_chance_given
from oddkeep.reading import read_game, read_strategy
from oddkeep.runs import chance_of, runs_of
from oddkeep.stakes import expected_stakes, stakes, stakes_of_steps, stakes_paper, with_prizes
from oddkeep.sure import almost_sure, chance_ranks, keeping_away, no_chance, sure_ranks, sure_strategy
from oddkeep.table import Table
from oddkeep.writing import write_game, write_strategy
from tests.helping import as_number, busy_games, finishing, fraction, fractions, random_chains, random_games


def busy_chains(seed, count, most_places=7):
    return busy_games(seed, count, most_places, ("draw", "draw", "draw", "reward"))


def great_games():
    """Games of thirty places, with draws of six branches and with rings."""
    chance = random.Random("great")
    games = []
    for most in (1, 2, 6):
        rows = []
        for _ in range(28):
            ways = [chance.randrange(30) for _ in range(chance.randint(1, most))]
            weights = [chance.randint(1, 99) for _ in ways]
            parts = [as_number(Fraction(weight, sum(weights))) for weight in weights]
            rows.append(chance.choice([("draw", list(zip(parts, ways))), ("ours", ways), ("theirs", ways),
                                       ("reward", as_number(Fraction(chance.randint(0, 900), 901)), ways[0])]))
        games.append(rows + [("finish",), ("lose",)])
    return games


class Files(unittest.TestCase):
    def test_the_files_of_the_interface(self):
        names = sorted(path.stem for path in Path(oddkeep.__file__).parent.glob("*.py"))
        self.assertEqual(names, ["__init__", "alike", "building", "chains", "deciding", "duels", "errors", "games",
                                 "linear", "masses", "numbers", "observing", "reading", "runs", "stakes", "sure",
                                 "table", "writing"])
        for name in names[1:]:
            importlib.import_module(f"oddkeep.{name}")


class Chains(unittest.TestCase):
    def test_in_a_chain_values_are_chances_to_finish(self):
        for chain in random_chains("whole", 100) + busy_chains("whole", 100):
            due = chances(chain, places_of(chain, "finish"))
            self.assertEqual(values(chain), due)
            self.assertEqual(chances_of(chain, ("finish",)), due)
            none = [None] * len(chain)
            self.assertEqual(least_against(chain, none), (due, none))
            self.assertEqual(greatest_against(chain, none), (due, none))
            self.assertEqual(gap(chain, ours=none, theirs=none), [(0, 1)] * len(chain))
            self.assertEqual(finished_within(chain, steps=7), values_of_steps(chain, steps=7))

    def test_in_an_ending_chain_stakes_are_expected_rewards(self):
        for chain in busy_chains("paid", 150):
            if always_ends(chain):
                self.assertEqual(stakes(chain), expected_rewards(chain))
                none = [None] * len(chain)
                self.assertEqual(expected_stakes(chain, ours=none, theirs=none), expected_rewards(chain))

    def test_a_chain_always_ends_exactly_if_all_expected_numbers_of_steps_are_finite(self):
        for chain in random_chains("steps", 150) + busy_chains("steps", 150):
            self.assertIs(always_ends(chain), None not in expected_steps(chain))
            alone = [len(closed) == 1 and chain[closed[0]][0] in ("finish", "lose") for closed in closed_classes(chain)]
            self.assertIs(always_ends(chain), all(alone))

    def test_conditioned_chains_and_quotients_are_chains_everywhere(self):
        chance = random.Random("everywhere")
        for chain in busy_chains("everywhere", 80, 8):
            never = ("never", sorted(chance.sample(range(len(chain)), 2)))
            for whole in (conditioned(chain, ("finish",)), conditioned(chain, ("lose",)), conditioned(chain, never),
                          quotient(chain), quotient(conditioned(chain, never))):
                self.assert_is_used_as_a_chain(whole)

    def assert_is_used_as_a_chain(self, chain):
        check_chain(chain)
        self.assertIs(is_chain(chain), True)
        self.assertEqual(total(masses_after(chain, 0, steps=5)), (1, 1))
        runs = runs_of(chain, 0, steps=3)
        self.assertEqual(total([worth for _, worth in runs]), (1, 1))
        for run, worth in runs:
            self.assertEqual(chance_of(chain, run), worth)
            self.assertEqual(run_chance_given(chain, run, condition=("never", [])), worth)
        for closed in closed_classes(chain):
            self.assertEqual(total(shares(chain, closed)), (1, 1))
        self.assertEqual(values(chain), chances(chain, places_of(chain, "finish")))
        self.assertIs(is_alike_division(chain, rounds(chain)[-1]), True)
        self.assertEqual(rewards_given(chain, 0, condition=("never", [])), expected_rewards(chain)[0])
        self.assertEqual(conditioned(chain, ("never", [])), chain)
        self.assertEqual(chance_into(chain, 0, reached(chain, 0)), (0, 1) if chain[0][0] == "lose" else (1, 1))
        self.assertIs(always_ends(chain), None not in expected_steps(chain))
        telling_test(chain, 0, len(chain) - 1)

    def test_long_chains(self):
        # A walk of thirty places with chances of which no two have a common denominator.
        primes = (101, 103, 107, 109, 113, 127, 131, 137, 139, 149, 151, 157, 163, 167, 173, 179, 181, 191, 193, 197,
                  199, 211, 223, 227, 229, 233, 239, 241)
        chain = [("lose",)]
        for place, prime in enumerate(primes, 1):
            chain.append(("draw", [((60, prime), place + 1), ((prime - 60, prime), place - 1)]))
        chain.append(("finish",))
        check_game(chain)
        for condition in (("finish",), ("lose",), ("never", [15])):
            given = conditioned(chain, condition)
            self.assertTrue(all(is_number(worth) for row in given if row[0] == "draw" for worth, _ in row[1]))
            self.assertEqual(values(given)[14], chances(given, [29])[14])
            self.assertEqual(rounds(given)[-1][0][0], 0)
        self.assertEqual(chances(conditioned(chain, ("finish",)), [29])[1:], [(1, 1)] * 29)


class Duels(unittest.TestCase):
    def test_what_is_sure_and_what_has_a_chance(self):
        for game in random_games("sides", 150) + busy_games("sides", 150, 9):
            told = fractions(values(game))
            least = fractions(least_against(game, sure_strategy(game))[0])
            away = fractions(greatest_against(game, keeping_away(game))[0])
            for place, value in enumerate(told):
                self.assertIs(value == 1, place in almost_sure(game)[0])
                self.assertIs(value == 0, place in no_chance(game))
                self.assertIs(value > 0, chance_ranks(game)[place] is not None)
                if sure_ranks(game)[place] is not None:
                    self.assertEqual(least[place], 1)
                if value == 0:
                    self.assertEqual(away[place], 0)

    def test_good_moves_by_steps(self):
        for game in busy_games("good", 60):
            for side in ("ours", "theirs"):
                moves = good_moves(game, steps=3)
                told = [moves[place][0] if row[0] == side else None for place, row in enumerate(game)]
                half = with_strategy(game, side, told)
                for place in places_of(game, side):
                    one = [fraction(values_of_steps(game, steps=2)[x]) for _, x in half[place][1]]
                    self.assertEqual(one, [fraction(values_of_steps(game, steps=3)[place])])

    def test_texts(self):
        for game in busy_games("texts", 60):
            _, ours, theirs, _ = answer_of(game)
            again = read_game(write_game(game))
            self.assertEqual(values(again), values(game))
            one = read_strategy(again, "ours", write_strategy(ours))
            other = read_strategy(again, "theirs", write_strategy(theirs))
            self.assertEqual(finishing(again, one, other), fractions(values(game)))

    def test_great_games(self):
        for game in great_games():
            check_game(game)
            answer = answer_of(game)
            self.assertIs(check_answer(game, answer), True)
            self.assertEqual(gap(game, ours=answer[1], theirs=answer[2]), [(0, 1)] * 30)
            for one, other in zip(fractions(values_of_steps(game, steps=40)), fractions(answer[0])):
                self.assertLessEqual(one, other)
            table = Table(game, start=0)
            self.assertEqual(table.promise(), answer[0][0])
            self.assertEqual(total(masses_after(with_strategy(with_strategy(game, "ours", answer[1]), "theirs",
                                                              answer[2]), 0, steps=40)), (1, 1))
            with self.assertRaises(errors.BadSize):
                with_prizes(game)
            self.assertEqual(len(stakes_of_steps(game, steps=40)), 30)


class Building(unittest.TestCase):
    def test_games_that_are_put_together_again(self):
        games = busy_games("together", 40, 5)
        for first, second in zip(games, games[1:]):
            chosen = choice_between([first, second], side="theirs")
            whole = mixture([((1, 3), chosen), ((2, 3), one_after(second, first))])
            check_game(whole)
            one, other = fraction(values(first)[0]), fraction(values(second)[0])
            self.assertEqual(fraction(values(whole)[0]), min(one, other) / 3 + one * other * 2 / 3)

    def test_exchanged_ends_and_sides(self):
        for game in busy_games("exchanged", 60):
            about = turned_about(game)
            self.assertEqual(exchanged(about), [
                {"finish": ("lose",), "lose": ("finish",)}.get(row[0], row) for row in game
            ])
            if always_ends(game):
                self.assertEqual(sum(fractions([values(game)[0], values(about)[0]])), 1)

    def test_stakes_of_games_that_are_put_together(self):
        ending = [game for game in busy_games("paid together", 200, 6) if always_ends(game)]
        self.assertGreater(len(ending), 20)
        for first, second in zip(ending, ending[1:]):
            one, other = fraction(stakes(first)[0]), fraction(stakes(second)[0])
            self.assertEqual(fraction(stakes(choice_between([first, second], side="ours"))[0]), max(one, other))
            self.assertEqual(fraction(stakes(mixture([((1, 4), first), ((3, 4), second)]))[0]), (one + 3 * other) / 4)
            numbers, _, _ = stakes_paper(one_after([("finish",)], second))
            self.assertEqual(fraction(numbers[0]), other)


if __name__ == "__main__":
    unittest.main()
