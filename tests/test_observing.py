"""Points 53 to 57: conditions, conditioned chains, and what is to be expected given a condition."""

import random
import unittest
from fractions import Fraction

from oddkeep.chains import chances, check_chain, expected_rewards
from oddkeep.errors import NeverSo, NotARun
from oddkeep.games import places_of
from oddkeep.masses import masses_after
from oddkeep.numbers import is_number, total
from oddkeep.observing import chances_of, conditioned, rewards_given, run_chance_given
from oddkeep.runs import chance_of, is_run, runs_of
from tests.helping import HALF, ArgumentsStay, as_number, fraction, fractions, moves_of, random_chains

EXAMPLE = [("draw", [(HALF, 1), (HALF, 3)]), ("draw", [((1, 3), 2), ((2, 3), 3)]), ("finish",), ("lose",)]
# Place 1 pays each time, 2 goes round for ever and is paid for it, 3 goes round for ever; 4 and 5 are finishes.
PAID = [
    ("draw", [((1, 6), 1), ((1, 6), 2), ((1, 6), 3), ((1, 6), 4), ((1, 6), 5), ((1, 6), 6)]),
    ("reward", (3, 2), 0),
    ("reward", (1, 1), 2),
    ("draw", [(HALF, 3), (HALF, 3)]),
    ("finish",),
    ("finish",),
    ("lose",),
    ("reward", (0, 1), 6),
]
FINISH = ("finish",)
LOSE = ("lose",)
CONDITIONS = [FINISH, LOSE, ("never", []), ("never", [1]), ("never", [2, 3, 4]), ("never", [0, 5, 7]),
              ("never", list(range(8)))]


class Arguments(ArgumentsStay, unittest.TestCase):
    CALLS = [
        (call, [chain, condition], {})
        for call in (chances_of, conditioned)
        for chain in (EXAMPLE, PAID)
        for condition in (FINISH, LOSE, ("never", []), ("never", [0, 1]), ("never", [3]))
    ] + [
        (run_chance_given, [PAID, [0, 1, 0, 4]], {"condition": FINISH}),
        (run_chance_given, [PAID, [0, 1, 0, 6]], {"condition": ("never", [2, 3])}),
        (run_chance_given, [PAID, [0, 3]], {"condition": FINISH}),
        (rewards_given, [PAID, 0], {"condition": FINISH}),
        (rewards_given, [PAID, 0], {"condition": ("never", [3])}),
    ]


def random_condition(chance, chain):
    if chance.random() < 0.4:
        return chance.choice((FINISH, LOSE))
    return ("never", sorted(chance.sample(range(len(chain)), chance.randint(0, min(3, len(chain))))))


def chances_by_definition(chain, condition):
    if condition[0] == "never":
        return [1 - value for value in fractions(chances(chain, condition[1]))]
    return fractions(chances(chain, places_of(chain, condition[0])))


class ChancesOf(unittest.TestCase):
    def test_to_finish_and_to_lose(self):
        self.assertEqual(chances_of(EXAMPLE, FINISH), [(1, 6), (1, 3), (1, 1), (0, 1)])
        self.assertEqual(chances_of(EXAMPLE, LOSE), [(5, 6), (2, 3), (0, 1), (1, 1)])
        self.assertEqual(chances_of(PAID, FINISH), [(2, 5), (2, 5), (0, 1), (0, 1), (1, 1), (1, 1), (0, 1), (0, 1)])
        self.assertEqual(chances_of(PAID, LOSE), [(1, 5), (1, 5), (0, 1), (0, 1), (0, 1), (0, 1), (1, 1), (1, 1)])

    def test_never_to_meet_some_places(self):
        self.assertEqual(chances_of(PAID, ("never", [2])),
                         [(4, 5), (4, 5), (0, 1), (1, 1), (1, 1), (1, 1), (1, 1), (1, 1)])
        self.assertEqual(chances_of(PAID, ("never", [1, 6])),
                         [(2, 3), (0, 1), (1, 1), (1, 1), (1, 1), (1, 1), (0, 1), (0, 1)])
        self.assertEqual(chances_of(EXAMPLE, ("never", [0])), [(0, 1), (1, 1), (1, 1), (1, 1)])
        self.assertEqual(chances_of(EXAMPLE, ("never", [2, 3])), [(0, 1)] * 4)
        self.assertEqual(chances_of(EXAMPLE, ("never", [1, 2])), [HALF, (0, 1), (0, 1), (1, 1)])

    def test_no_places_that_are_never_met(self):
        for chain in (EXAMPLE, PAID, [("lose",)], [("reward", (1, 1), 0)]):
            self.assertEqual(chances_of(chain, ("never", [])), [(1, 1)] * len(chain))

    def test_all_places_are_never_met(self):
        self.assertEqual(chances_of(PAID, ("never", list(range(8)))), [(0, 1)] * 8)

    def test_chains_of_one_place_and_of_thirty(self):
        self.assertEqual(chances_of([("finish",)], FINISH), [(1, 1)])
        self.assertEqual(chances_of([("finish",)], LOSE), [(0, 1)])
        self.assertEqual(chances_of([("reward", (1, 1), 0)], FINISH), [(0, 1)])
        way = [("reward", (0, 1), place + 1) for place in range(29)] + [("lose",)]
        self.assertEqual(chances_of(way, LOSE), [(1, 1)] * 30)
        self.assertEqual(chances_of(way, ("never", [7])), [(0, 1)] * 8 + [(1, 1)] * 22)

    def test_many_chains(self):
        chance = random.Random("conditions")
        for chain in random_chains("conditions", 200):
            condition = random_condition(chance, chain)
            self.assertEqual(fractions(chances_of(chain, condition)), chances_by_definition(chain, condition))


class Conditioned(unittest.TestCase):
    def test_the_example_of_the_interface(self):
        self.assertEqual(conditioned(EXAMPLE, LOSE), [
            ("draw", [((2, 5), 1), ((3, 5), 3)]), ("draw", [((1, 1), 3)]), ("finish",), ("lose",),
        ])
        self.assertEqual(conditioned(EXAMPLE, FINISH), [
            ("draw", [((1, 1), 1)]), ("draw", [((1, 1), 2)]), ("finish",), ("lose",),
        ])

    def test_places_without_a_chance(self):
        self.assertEqual(conditioned(PAID, FINISH), [
            ("draw", [((1, 6), 1), ((5, 12), 4), ((5, 12), 5)]), ("reward", (3, 2), 0), ("lose",), ("lose",),
            ("finish",), ("finish",), ("lose",), ("lose",),
        ])
        self.assertEqual(conditioned(PAID, LOSE), [
            ("draw", [((1, 6), 1), ((5, 6), 6)]), ("reward", (3, 2), 0), ("lose",), ("lose",),
            ("finish",), ("finish",), ("lose",), ("reward", (0, 1), 6),
        ])

    def test_places_that_are_never_met(self):
        self.assertEqual(conditioned(PAID, ("never", [2, 4])), [
            ("draw", [((1, 6), 1), ((5, 18), 3), ((5, 18), 5), ((5, 18), 6)]), ("reward", (3, 2), 0), ("lose",),
            ("draw", [(HALF, 3), (HALF, 3)]), ("lose",), ("finish",), ("lose",), ("reward", (0, 1), 6),
        ])
        self.assertEqual(conditioned(PAID, ("never", [1, 5, 6])), [
            ("draw", [((1, 3), 2), ((1, 3), 3), ((1, 3), 4)]), ("lose",), ("reward", (1, 1), 2),
            ("draw", [(HALF, 3), (HALF, 3)]), ("finish",), ("lose",), ("lose",), ("lose",),
        ])
        self.assertEqual(conditioned(PAID, ("never", list(range(8)))), [("lose",)] * 8)

    def test_no_places_that_are_never_met(self):
        for chain in (EXAMPLE, PAID, [("finish",)], [("lose",)] * 30, [("reward", (1, 1), 0)]):
            self.assertEqual(conditioned(chain, ("never", [])), chain)

    def test_ends_stay_unless_they_are_never_met(self):
        ends = [("finish",), ("lose",)]
        self.assertEqual(conditioned(ends, FINISH), ends)
        self.assertEqual(conditioned(ends, LOSE), ends)
        self.assertEqual(conditioned(ends, ("never", [1])), ends)
        self.assertEqual(conditioned(ends, ("never", [0])), [("lose",), ("lose",)])

    def test_branches_in_their_order(self):
        chain = [("draw", [((1, 6), 2), ((1, 6), 1), ((1, 6), 2), ((1, 6), 3), ((1, 6), 1), ((1, 6), 2)]),
                 ("lose",), ("finish",), ("draw", [((1, 4), 1), ((3, 4), 2)])]
        self.assertEqual(conditioned(chain, FINISH)[0],
                         ("draw", [((4, 15), 2), ((4, 15), 2), ((1, 5), 3), ((4, 15), 2)]))

    def test_the_answer_is_a_chain_that_fulfills_the_condition(self):
        chance = random.Random("given")
        draws = 0
        for chain in random_chains("given", 400):
            condition = random_condition(chance, chain)
            likely = chances_by_definition(chain, condition)
            given = conditioned(chain, condition)
            check_chain(given)
            self.assertEqual(len(given), len(chain))
            for place, row in enumerate(given):
                if row[0] == "draw":
                    draws += 1
                    self.assertEqual(total([branch[0] for branch in row[1]]), (1, 1))
                    self.assertTrue(all(is_number(branch[0]) and branch[0][0] > 0 for branch in row[1]))
                    for x, worth in moves_of(given, place).items():
                        self.assertEqual(worth, moves_of(chain, place)[x] * likely[x] / likely[place])
                elif row[0] == "lose" and chain[place][0] in ("draw", "reward"):
                    self.assertEqual(likely[place], 0)
                elif row[0] == "lose" and chain[place][0] == "finish":
                    self.assertIn(place, condition[1])
                else:
                    self.assertEqual(row, chain[place])
            met = chances(given, places_of(given, condition[0])) if condition[0] != "never" else []
            for place, number in enumerate(met):
                if likely[place] > 0:
                    self.assertEqual(number, (1, 1))
        self.assertGreater(draws, 100)

    def test_long_chances_can_be_handed_in_again(self):
        ways = [("draw", [((1, 3), place + 1), ((2, 3), 29)]) for place in range(28)]
        given = conditioned(ways + [("finish",), ("lose",)], LOSE)
        self.assertEqual(given[0][1][0][0], as_number(Fraction(3 ** 27 - 1, 3 ** 28 - 1)))
        self.assertEqual(chances(given, [29])[:28], [(1, 1)] * 28)
        self.assertEqual(total(masses_after(given, 0, steps=40)), (1, 1))
        again = conditioned(given, ("never", [1]))
        self.assertEqual(again[:2], [("draw", [((1, 1), 29)]), ("lose",)])


class RunChanceGiven(unittest.TestCase):
    def test_chances_of_runs(self):
        for run, condition, due in [
            ([0, 4], FINISH, (5, 12)), ([0, 1, 0, 4], FINISH, (5, 72)), ([0, 1], FINISH, (1, 6)), ([0], FINISH, (1, 1)),
            ([4], FINISH, (1, 1)), ([0, 6], LOSE, (5, 6)), ([7, 6], LOSE, (1, 1)), ([1, 0, 6], LOSE, (5, 6)),
            ([0, 5], ("never", [2, 4]), (5, 18)), ([2, 2, 2], ("never", [1]), (1, 1)), ([3, 3], ("never", []), (1, 1)),
            ([0, 1, 0], ("never", []), (1, 6)),
        ]:
            with self.subTest(run=run, condition=condition):
                self.assertEqual(run_chance_given(PAID, run, condition=condition), due)

    def test_a_place_without_a_chance(self):
        for run, condition in [([0, 3], FINISH), ([0, 3, 3], FINISH), ([0, 6], FINISH), ([0, 1, 0, 2], LOSE),
                               ([0, 1], ("never", [1])), ([0, 4], ("never", [4]))]:
            self.assertEqual(run_chance_given(PAID, run, condition=condition), (0, 1))

    def test_a_place_that_is_left_again(self):
        chain = [("reward", (1, 1), 1), ("reward", (1, 1), 2), ("draw", [(HALF, 1), (HALF, 3)]), ("finish",)]
        told = [("draw", [(HALF, 1), (HALF, 2)]), *chain[1:]]
        self.assertEqual(run_chance_given(told, [0, 1, 2, 3], condition=("never", [1])), (0, 1))
        self.assertEqual(run_chance_given(told, [0, 2, 3], condition=("never", [1])), (1, 1))
        with self.assertRaises(NeverSo) as caught:
            run_chance_given(chain, [0, 1, 2], condition=("never", [1]))
        self.assertEqual(caught.exception.place, 0)

    def test_no_run(self):
        for run, step in [([8], 0), ([-1], 0), ([0, 0], 1), ([0, 1, 2], 2), ([3, 3, 4], 2), ([0, 6, 6], 2), ([2, 0], 1)]:
            for condition in CONDITIONS:
                with self.assertRaises(NotARun) as caught:
                    run_chance_given(PAID, run, condition=condition)
                self.assertEqual(caught.exception.step, step)

    def test_never_so(self):
        for run, condition in [([3], FINISH), ([2, 2], FINISH), ([7, 6], FINISH), ([4], LOSE), ([1, 0], ("never", [1])),
                               ([0, 1], ("never", [0])), ([6], ("never", [6]))]:
            with self.assertRaises(NeverSo) as caught:
                run_chance_given(PAID, run, condition=condition)
            self.assertEqual(caught.exception.place, run[0])

    def test_it_is_the_chance_in_the_conditioned_chain(self):
        chance = random.Random("given runs")
        seen = {True: 0, False: 0}
        for chain in random_chains("given runs", 300):
            condition = random_condition(chance, chain)
            likely = chances_by_definition(chain, condition)
            given = conditioned(chain, condition)
            for place in range(len(chain)):
                if likely[place]:
                    for run, whole in runs_of(chain, place, steps=3):
                        found = run_chance_given(chain, run, condition=condition)
                        inside = all(likely[x] for x in run)
                        seen[inside] += 1
                        self.assertEqual(found, chance_of(given, run) if inside else (0, 1))
                        if inside:
                            self.assertEqual(fraction(found), fraction(whole) * likely[run[-1]] / likely[place])
                            self.assertTrue(is_run(given, run))
        self.assertGreater(min(seen.values()), 50)

    def test_the_chances_of_all_runs_have_the_sum_1(self):
        for condition in (FINISH, LOSE, ("never", [2]), ("never", [])):
            told = [run_chance_given(PAID, run, condition=condition) for run, _ in runs_of(PAID, 0, steps=5)]
            self.assertEqual(total(told), (1, 1))


class RewardsGiven(unittest.TestCase):
    def test_rewards(self):
        for place, condition, due in [
            (0, FINISH, (3, 10)), (1, FINISH, (9, 5)), (4, FINISH, (0, 1)), (0, LOSE, (3, 10)), (7, LOSE, (0, 1)),
            (0, ("never", [1, 2]), (0, 1)), (0, ("never", [2]), (3, 10)), (3, ("never", [2]), (0, 1)),
        ]:
            with self.subTest(place=place, condition=condition):
                self.assertEqual(rewards_given(PAID, place, condition=condition), due)

    def test_infinite_ones(self):
        for place in (0, 1, 2):
            self.assertIsNone(rewards_given(PAID, place, condition=("never", [])))
        self.assertIsNone(rewards_given(PAID, 2, condition=("never", [0])))

    def test_never_so(self):
        for place, condition in [(2, FINISH), (3, FINISH), (6, FINISH), (7, FINISH), (4, LOSE), (2, LOSE),
                                 (2, ("never", [2])), (1, ("never", [0])), (0, ("never", list(range(8))))]:
            with self.assertRaises(NeverSo) as caught:
                rewards_given(PAID, place, condition=condition)
            self.assertEqual(caught.exception.place, place)

    def test_a_condition_changes_what_is_expected(self):
        # The longer the play goes on, the more likely it is to finish.
        chain = [("reward", (1, 1), 1), ("draw", [(HALF, 2), (HALF, 3)]), ("reward", (1, 1), 4), ("lose",), ("finish",)]
        self.assertEqual(expected_rewards(chain)[0], (3, 2))
        self.assertEqual(rewards_given(chain, 0, condition=FINISH), (2, 1))
        self.assertEqual(rewards_given(chain, 0, condition=LOSE), (1, 1))

    def test_conditions_that_part_all_plays(self):
        # What is expected at all is the mean of what is expected given that the play finishes, or loses.
        parted = 0
        for chain in random_chains("parted", 600):
            whole = expected_rewards(chain)
            finish, lose = chances_by_definition(chain, FINISH), chances_by_definition(chain, LOSE)
            for place in range(len(chain)):
                if whole[place] is not None and finish[place] + lose[place] == 1:
                    due = Fraction(0)
                    for condition, likely in ((FINISH, finish), (LOSE, lose)):
                        if likely[place]:
                            due += likely[place] * fraction(rewards_given(chain, place, condition=condition))
                    self.assertEqual(whole[place], as_number(due))
                    parted += 0 < finish[place] < 1 and due > 0
        self.assertGreater(parted, 20)

    def test_they_are_those_of_the_conditioned_chain(self):
        chance = random.Random("given rewards")
        for chain in random_chains("given rewards", 200):
            condition = random_condition(chance, chain)
            due = expected_rewards(conditioned(chain, condition))
            for place, likely in enumerate(chances_by_definition(chain, condition)):
                if likely:
                    self.assertEqual(rewards_given(chain, place, condition=condition), due[place])


if __name__ == "__main__":
    unittest.main()
