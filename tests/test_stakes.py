"""Points 64 to 69: stakes, stakes papers, stakes of steps, prizes."""

import random
import unittest
from fractions import Fraction

from oddkeep.building import always_ends
from oddkeep.chains import expected_rewards
from oddkeep.duels import values
from oddkeep.errors import BadSize, NotEnding
from oddkeep.games import check_game, check_strategy, targets
from oddkeep.masses import values_of_steps
from oddkeep.numbers import is_number
from oddkeep.stakes import (
    are_lower_stakes, are_upper_stakes, expected_stakes, is_stakes_paper, stakes, stakes_of_steps, stakes_paper,
    with_prizes,
)
from tests.helping import (
    EVERY_KIND, HALF, ArgumentsStay, as_numbers, both_put_in, busy_games, fraction, fractions, random_games,
    strategies,
)

# We choose between 3 at once and a draw; the others choose between 1 and 4; from 2 the play can come back.
GAME = [
    ("ours", [1, 2]),
    ("reward", (3, 1), 7),
    ("draw", [(HALF, 3), ((1, 4), 0), ((1, 4), 6)]),
    ("theirs", [5, 4, 5]),
    ("reward", (9, 2), 6),
    ("reward", (7, 2), 7),
    ("finish",),
    ("lose",),
]
# By way of place 2 we would get 7/4 and a quarter of what we get at place 0, which is less than 3 in all.
STAKES = [(3, 1), (3, 1), (5, 2), (7, 2), (9, 2), (7, 2), (0, 1), (0, 1)]
OURS = [0] + [None] * 7
THEIRS = [None, None, None, 0, None, None, None, None]
FOR_EVER = [("reward", (1, 1), 1), ("ours", [0, 2]), ("finish",), ("lose",)]
WAY = [("reward", (1, place + 1), place + 1) for place in range(29)] + [("lose",)]


class Arguments(ArgumentsStay, unittest.TestCase):
    CALLS = [
        (call, [game], {}) for call in (stakes, stakes_paper, with_prizes) for game in (GAME, EVERY_KIND)
    ] + [
        (is_stakes_paper, [GAME, (STAKES, OURS, THEIRS)], {}),
        (are_upper_stakes, [GAME, STAKES], {"theirs": THEIRS}),
        (are_lower_stakes, [GAME, STAKES], {"ours": OURS}),
        (stakes_of_steps, [GAME], {"steps": 0}),
        (stakes_of_steps, [GAME], {"steps": 3}),
        (expected_stakes, [GAME], {"ours": OURS, "theirs": THEIRS}),
    ]


def ending_games(seed, count, most_places=7):
    """Games that always end, made of those that are random."""
    kinds = ("draw", "draw", "ours", "theirs", "reward", "reward", "reward")
    return [game for game in busy_games(seed, count, most_places, kinds) if always_ends(game)]


def expected(game, ours, theirs):
    return fractions(expected_rewards(both_put_in(game, ours, theirs)))


def least_expected(game, ours):
    return [min(column) for column in zip(*[expected(game, ours, theirs) for theirs in strategies(game, "theirs")])]


def greatest_expected(game, theirs):
    return [max(column) for column in zip(*[expected(game, ours, theirs) for ours in strategies(game, "ours")])]


def stakes_by_trying(game):
    return [max(column) for column in zip(*[least_expected(game, ours) for ours in strategies(game, "ours")])]


def one_step(game, place, values, told=None):
    """What point 65 says of the number of the place, or the numbers of all targets that a strategy leaves open."""
    row = game[place]
    if row[0] in ("finish", "lose"):
        return [Fraction(0)]
    if row[0] == "draw":
        return [sum(fraction(chance) * values[x] for chance, x in row[1])]
    if row[0] == "reward":
        return [fraction(row[1]) + values[row[2]]]
    ahead = [values[x] for x in targets(game, place)]
    return ahead if told is None else [ahead[told]]


def steps_by_definition(game, steps):
    values = [Fraction(0)] * len(game)
    for _ in range(steps):
        values = [(min if row[0] == "theirs" else max)(one_step(game, place, values)) for place, row in enumerate(game)]
    return values


def are_bounds(game, values, side, strategy, way):
    """Point 66: upper stakes with a strategy of theirs (way 1), or lower stakes with one of ours (way -1)."""
    if strategy not in strategies(game, side) or len(values) != len(game):
        return False
    return all(way * values[place] >= way * worth for place in range(len(game))
               for worth in one_step(game, place, values, strategy[place]))


class Stakes(unittest.TestCase):
    def test_told_games(self):
        self.assertEqual(stakes(GAME), STAKES)
        self.assertEqual(stakes(EVERY_KIND), [(7, 2) if place == 3 else (0, 1) for place in range(6)])
        richer = [("ours", [1, 2]), ("reward", (5, 2), 7)] + GAME[2:]
        self.assertEqual(stakes(richer), [(5, 2), (5, 2), (19, 8)] + STAKES[3:])
        poorer = [("ours", [1, 2]), ("reward", (2, 1), 7)] + GAME[2:]
        self.assertEqual(stakes(poorer), [(7, 3), (2, 1), (7, 3)] + STAKES[3:])

    def test_games_of_one_place_and_of_thirty(self):
        self.assertEqual(stakes([("finish",)]), [(0, 1)])
        self.assertEqual(stakes([("lose",)]), [(0, 1)])
        found = fractions(stakes(WAY))
        self.assertEqual(found, [sum(Fraction(1, later + 1) for later in range(place, 29)) for place in range(30)])

    def test_an_amount_counts_each_time(self):
        game = [("reward", (1, 2), 1), ("draw", [((9, 10), 0), ((1, 10), 2)]), ("lose",)]
        self.assertEqual(stakes(game), [(5, 1), (9, 2), (0, 1)])

    def test_six_branches(self):
        game = [("ours", [2, 3, 4, 5, 6, 7]), ("theirs", [7, 6, 2, 4, 5, 3])]
        game += [("reward", (amount, 3), 8) for amount in (4, 1, 7, 2, 5, 1)] + [("finish",)]
        self.assertEqual(stakes(game)[:2], [(7, 3), (1, 3)])

    def test_games_that_do_not_always_end(self):
        for game in (FOR_EVER, [("reward", (0, 1), 0)], [("theirs", [0, 1]), ("finish",)], [("ours", [0])],
                     [("draw", [((1, 1), 0)])], [("finish",), ("draw", [(HALF, 1), (HALF, 1)])]):
            for call in (stakes, stakes_paper):
                with self.assertRaises(NotEnding):
                    call(game)

    def test_all_strategies_of_both_sides(self):
        positive = 0
        for game in ending_games("stakes", 400, 6):
            found = stakes(game)
            self.assertTrue(all(is_number(number) for number in found))
            told = fractions(found)
            self.assertEqual(told, stakes_by_trying(game))
            positive += any(told)
            for place, row in enumerate(game):
                best = min if row[0] == "theirs" else max
                self.assertEqual(told[place], best(one_step(game, place, told)))
            # There are strategies of both sides that bring all places to the stakes at once.
            self.assertIn(told, [least_expected(game, ours) for ours in strategies(game, "ours")])
            self.assertIn(told, [greatest_expected(game, theirs) for theirs in strategies(game, "theirs")])
        self.assertGreater(positive, 50)


class StakesPaper(unittest.TestCase):
    def test_a_told_game(self):
        self.assertEqual(stakes_paper([("finish",)]), ([(0, 1)], [None], [None]))
        numbers, ours, theirs = stakes_paper(GAME)
        self.assertEqual((numbers, ours), (STAKES, OURS))
        self.assertIn(theirs[3], (0, 2))

    def test_many_games(self):
        for game in ending_games("papers", 300, 9) + [GAME, EVERY_KIND, WAY]:
            paper = stakes_paper(game)
            self.assertIsInstance(paper, tuple)
            numbers, ours, theirs = paper
            check_strategy(game, "ours", ours)
            check_strategy(game, "theirs", theirs)
            self.assertEqual(numbers, stakes(game))
            self.assertIs(is_stakes_paper(game, paper), True)
            self.assertTrue(are_bounds(game, fractions(numbers), "theirs", theirs, 1))
            self.assertTrue(are_bounds(game, fractions(numbers), "ours", ours, -1))


class IsStakesPaper(unittest.TestCase):
    def test_right_and_wrong_ones(self):
        self.assertIs(is_stakes_paper(GAME, (STAKES, OURS, THEIRS)), True)
        self.assertIs(is_stakes_paper(GAME, (STAKES, OURS, [None, None, None, 2, None, None, None, None])), True)
        self.assertIs(is_stakes_paper(GAME, (STAKES, OURS, [None, None, None, 1, None, None, None, None])), False)
        self.assertIs(is_stakes_paper(GAME, (STAKES, [1] + [None] * 7, THEIRS)), False)
        for place, number in enumerate(STAKES):
            for other in ((number[0] + 1, number[1]), (number[0] - 1, number[1])):
                wrong = STAKES[:place] + as_numbers([fraction(other)]) + STAKES[place + 1:]
                self.assertIs(is_stakes_paper(GAME, (wrong, OURS, THEIRS)), False)

    def test_other_lengths_and_lists_that_are_no_strategies(self):
        right = (STAKES, OURS, THEIRS)
        for at in range(3):
            for wrong in ([], right[at][:-1], right[at][1:], right[at] + [None if at else (0, 1)], right[at] * 2):
                self.assertIs(is_stakes_paper(GAME, (*right[:at], wrong, *right[at + 1:])), False)
        self.assertIs(is_stakes_paper(GAME, (STAKES, THEIRS, OURS)), False)
        self.assertIs(is_stakes_paper(GAME, (STAKES, [2] + [None] * 7, THEIRS)), False)
        self.assertIs(is_stakes_paper(GAME, (STAKES, [-1] + [None] * 7, THEIRS)), False)
        self.assertIs(is_stakes_paper(GAME, (STAKES, OURS, [None] * 8)), False)


class Bounds(unittest.TestCase):
    def test_upper_stakes(self):
        self.assertIs(are_upper_stakes(GAME, STAKES, theirs=THEIRS), True)
        self.assertIs(are_upper_stakes(GAME, [(10 ** 40, 1)] * 8, theirs=THEIRS), False)
        great = [(10 ** 40 + 1000, 1), (10 ** 40, 1), (10 ** 40 + 10, 1)] + [(7, 2), (9, 2), (7, 2), (0, 1), (0, 1)]
        self.assertIs(are_upper_stakes(GAME, great, theirs=THEIRS), True)
        for place, number in enumerate(STAKES):
            less = as_numbers([fraction(number) - Fraction(1, 10 ** 30)])
            self.assertIs(are_upper_stakes(GAME, STAKES[:place] + less + STAKES[place + 1:], theirs=THEIRS), False)

    def test_the_told_target_of_theirs_and_every_target_of_ours(self):
        game = [("theirs", [2, 3]), ("ours", [2, 3]), ("reward", (1, 1), 4), ("reward", (2, 1), 4), ("lose",)]
        for branch, first, second, due in [(0, 1, 2, True), (1, 1, 2, False), (1, 2, 2, True), (0, 1, 1, False)]:
            told = [(first, 1), (second, 1), (1, 1), (2, 1), (0, 1)]
            self.assertIs(are_upper_stakes(game, told, theirs=[branch] + [None] * 4), due)
        for branch, first, second, due in [(1, 1, 2, True), (0, 1, 2, False), (0, 1, 1, True), (1, 2, 2, False)]:
            told = [(first, 1), (second, 1), (1, 1), (2, 1), (0, 1)]
            self.assertIs(are_lower_stakes(game, told, ours=[None, branch, None, None, None]), due)

    def test_lower_stakes(self):
        self.assertIs(are_lower_stakes(GAME, STAKES, ours=OURS), True)
        self.assertIs(are_lower_stakes(GAME, [(-10 ** 40, 1)] * 8, ours=OURS), True)
        self.assertIs(are_lower_stakes(GAME, [(0, 1)] * 8, ours=OURS), True)
        for place, number in enumerate(STAKES):
            more = as_numbers([fraction(number) + Fraction(1, 10 ** 30)])
            self.assertIs(are_lower_stakes(GAME, STAKES[:place] + more + STAKES[place + 1:], ours=OURS), False)

    def test_ends(self):
        for row in (("finish",), ("lose",)):
            for n, upper, lower in [(0, True, True), (1, True, False), (-1, False, True)]:
                self.assertIs(are_upper_stakes([row], [(n, 1)], theirs=[None]), upper)
                self.assertIs(are_lower_stakes([row], [(n, 1)], ours=[None]), lower)

    def test_other_lengths_and_lists_that_are_no_strategies(self):
        for numbers in ([], STAKES[:-1], STAKES[1:], STAKES + [(0, 1)], STAKES * 2):
            self.assertIs(are_upper_stakes(GAME, numbers, theirs=THEIRS), False)
            self.assertIs(are_lower_stakes(GAME, numbers, ours=OURS), False)
        for wrong in ([], [None] * 8, [None] * 7, OURS[1:], THEIRS + [None], [2] + [None] * 7, [0] * 8,
                      [None, None, None, 3, None, None, None, None], [-1] + [None] * 7, [0, 0] + [None] * 6):
            self.assertIs(are_upper_stakes(GAME, STAKES, theirs=wrong), False)
            self.assertIs(are_lower_stakes(GAME, STAKES, ours=wrong), False)
        self.assertIs(are_upper_stakes(GAME, STAKES, theirs=OURS), False)
        self.assertIs(are_lower_stakes(GAME, STAKES, ours=THEIRS), False)

    def test_games_that_do_not_always_end(self):
        self.assertIs(are_upper_stakes(FOR_EVER, [(1, 1), (1, 1), (0, 1), (0, 1)], theirs=[None] * 4), False)
        self.assertIs(are_lower_stakes(FOR_EVER, [(9, 1), (7, 1), (0, 1), (0, 1)], ours=[None, 0, None, None]), False)
        self.assertIs(are_lower_stakes(FOR_EVER, [(9, 1), (9, 1), (0, 1), (0, 1)], ours=[None, 0, None, None]), True)
        ring = [("reward", (0, 1), 0)]
        self.assertIs(are_upper_stakes(ring, [(-7, 1)], theirs=[None]), True)
        self.assertIs(are_lower_stakes(ring, [(7, 1)], ours=[None]), True)
        self.assertIs(is_stakes_paper(ring, ([(7, 1)], [None], [None])), True)

    def test_by_the_definition(self):
        chance = random.Random("bounds")
        seen = {True: 0, False: 0}
        for game in random_games("bounds", 150, 5) + ending_games("bounds", 300, 6):
            ours, theirs = chance.choice(strategies(game, "ours")), chance.choice(strategies(game, "theirs"))
            tries = [[Fraction(chance.randint(-2, 3), 2) for _ in game]]
            if always_ends(game):
                shift = Fraction(chance.randint(-1, 1), 3)
                tries.append([value + shift for value in greatest_expected(game, theirs)])
                tries.append([value + shift for value in least_expected(game, ours)])
            for told in tries:
                upper = are_bounds(game, told, "theirs", theirs, 1)
                lower = are_bounds(game, told, "ours", ours, -1)
                self.assertIs(are_upper_stakes(game, as_numbers(told), theirs=theirs), upper)
                self.assertIs(are_lower_stakes(game, as_numbers(told), ours=ours), lower)
                self.assertIs(is_stakes_paper(game, (as_numbers(told), ours, theirs)), upper and lower)
                seen[upper] += 1
                seen[lower] += 1
                if always_ends(game):
                    whole = fractions(stakes(game))
                    self.assertTrue(not upper or all(some <= most for some, most in zip(whole, told)))
                    self.assertTrue(not lower or all(some >= most for some, most in zip(whole, told)))
        self.assertGreater(min(seen.values()), 100)


class StakesOfSteps(unittest.TestCase):
    def test_no_step_and_one(self):
        self.assertEqual(stakes_of_steps(GAME, steps=0), [(0, 1)] * 8)
        self.assertEqual(stakes_of_steps(GAME, steps=1),
                         [(0, 1), (3, 1), (0, 1), (0, 1), (9, 2), (7, 2), (0, 1), (0, 1)])
        self.assertEqual(stakes_of_steps(GAME, steps=2),
                         [(3, 1), (3, 1), (0, 1), (7, 2), (9, 2), (7, 2), (0, 1), (0, 1)])
        self.assertEqual(stakes_of_steps(GAME, steps=3), [(3, 1), (3, 1), (5, 2), *STAKES[3:]])

    def test_games_that_do_not_always_end(self):
        self.assertEqual(stakes_of_steps(FOR_EVER, steps=40), [(20, 1), (20, 1), (0, 1), (0, 1)])
        self.assertEqual(stakes_of_steps([("reward", (2, 3), 0)], steps=39), [(26, 1)])
        self.assertEqual(stakes_of_steps([("theirs", [0])], steps=5), [(0, 1)])

    def test_different_denominators(self):
        game = [("draw", [((1, 7), 1), ((6, 7), 2)]), ("reward", (1, 5), 0), ("reward", (3, 4), 1)]
        for steps in range(8):
            self.assertEqual(fractions(stakes_of_steps(game, steps=steps)), steps_by_definition(game, steps))

    def test_thirty_places_and_long_numbers(self):
        game = [("draw", [((1, 997 - place), (place * 7 + 1) % 30), ((996 - place, 997 - place), place + 1)])
                for place in range(14)]
        game += [("reward", (1, 900 + place), (place * 11) % 30) for place in range(15)] + [("finish",)]
        self.assertEqual(fractions(stakes_of_steps(game, steps=40)), steps_by_definition(game, 40))

    def test_many_games(self):
        for game in random_games("stake steps", 150) + busy_games("stake steps", 150):
            before = [Fraction(0)] * len(game)
            for steps in (0, 1, 2, 5, 9):
                found = stakes_of_steps(game, steps=steps)
                self.assertTrue(all(is_number(number) for number in found))
                values = fractions(found)
                self.assertEqual(values, steps_by_definition(game, steps))
                self.assertTrue(all(more >= less for more, less in zip(values, before)))
                before = values
            if always_ends(game):
                self.assertTrue(all(most >= some for most, some in zip(fractions(stakes(game)), before)))


class ExpectedStakes(unittest.TestCase):
    def test_told_strategies(self):
        self.assertEqual(expected_stakes(GAME, ours=OURS, theirs=THEIRS), STAKES)
        self.assertEqual(expected_stakes(GAME, ours=[1] + [None] * 7, theirs=THEIRS)[:3], [(7, 3), (3, 1), (7, 3)])
        other = [None, None, None, 1, None, None, None, None]
        self.assertEqual(expected_stakes(GAME, ours=[1] + [None] * 7, theirs=other)[:4],
                         [(3, 1), (3, 1), (3, 1), (9, 2)])
        self.assertEqual(expected_stakes([("lose",)], ours=[None], theirs=[None]), [(0, 1)])

    def test_games_that_do_not_always_end(self):
        for branch in (0, 1):
            with self.assertRaises(NotEnding):
                expected_stakes(FOR_EVER, ours=[None, branch, None, None], theirs=[None] * 4)

    def test_many_games(self):
        chance = random.Random("expected")
        for game in ending_games("expected", 200):
            ours, theirs = chance.choice(strategies(game, "ours")), chance.choice(strategies(game, "theirs"))
            self.assertEqual(fractions(expected_stakes(game, ours=ours, theirs=theirs)), expected(game, ours, theirs))
            numbers, best, answer = stakes_paper(game)
            self.assertEqual(expected_stakes(game, ours=best, theirs=answer), numbers)


class WithPrizes(unittest.TestCase):
    def test_each_finish_is_put_behind_a_reward(self):
        self.assertEqual(with_prizes(EVERY_KIND),
                         EVERY_KIND[:4] + [("reward", (1, 1), 6), ("lose",), ("finish",)])
        self.assertEqual(with_prizes([("finish",), ("ours", [0, 2]), ("finish",)]),
                         [("reward", (1, 1), 3), ("ours", [0, 2]), ("reward", (1, 1), 3), ("finish",)])

    def test_games_without_a_finish(self):
        self.assertEqual(with_prizes([("lose",)]), [("lose",), ("finish",)])
        self.assertEqual(with_prizes([("ours", [0])]), [("ours", [0]), ("finish",)])

    def test_twenty_nine_places_and_thirty(self):
        self.assertEqual(len(with_prizes(WAY[1:29] + [("finish",)])), 30)
        self.assertEqual(with_prizes([("finish",)] * 29), [("reward", (1, 1), 29)] * 29 + [("finish",)])
        for game in (WAY, [("finish",)] * 30, [("ours", [0])] * 30):
            with self.assertRaises(BadSize):
                with_prizes(game)

    def test_the_stakes_are_the_values(self):
        between = 0
        for game in ending_games("prizes", 1000, 9):
            told = [("reward", (0, 1), row[2]) if row[0] == "reward" else row for row in game]
            prized = with_prizes(told)
            check_game(prized)
            self.assertIs(always_ends(prized), True)
            self.assertEqual(stakes(prized)[:-1], values(told))
            between += any(0 < value < 1 for value in fractions(values(told)))
            for steps in (0, 1, 5):
                self.assertEqual(stakes_of_steps(prized, steps=steps + 1)[:-1], values_of_steps(told, steps=steps))
        self.assertGreater(between, 50)


if __name__ == "__main__":
    unittest.main()
