"""Points 36 to 41: chances of meeting places, closed classes, shares, expected steps and rewards."""

import random
import unittest
from fractions import Fraction

from oddkeep.chains import (
    are_chances, are_rewards, chances, check_chain, closed_classes, expected_rewards, expected_steps, shares,
)
from oddkeep.errors import NotChain
from oddkeep.games import places_of, reached
from oddkeep.masses import finished_within, masses_after
from oddkeep.numbers import compare, is_number, total
from tests.helping import (
    EVERY_KIND, HALF, ArgumentsStay, as_number, fraction, fractions, moves_of, random_chains,
)

EXAMPLE = [("draw", [((1, 2), 0), ((1, 3), 1), ((1, 6), 2)]), ("finish",), ("lose",)]
PAID = [("draw", [((1, 2), 1), ((1, 2), 2)]), ("reward", (3, 1), 0), ("lose",)]
# A ring of 1 and 2, a place alone at 3, two ends, a place that leads to all, and one that leads to an end.
MIXED = [
    ("draw", [((1, 4), 2), ((1, 4), 3), ((1, 4), 4), ((1, 4), 5)]),
    ("reward", (0, 1), 2),
    ("draw", [((1, 3), 1), ((2, 3), 2)]),
    ("draw", [((1, 1), 3)]),
    ("finish",),
    ("lose",),
    ("reward", (1, 2), 4),
]
ALONE = [("finish",), ("lose",), ("draw", [(HALF, 2), (HALF, 2)]), ("reward", (0, 1), 3)]


class Arguments(ArgumentsStay, unittest.TestCase):
    CALLS = [
        (call, [chain], {})
        for call in (check_chain, closed_classes, expected_steps, expected_rewards)
        for chain in (EXAMPLE, PAID, MIXED)
    ] + [
        (chances, [EXAMPLE, [1]], {}),
        (chances, [MIXED, []], {}),
        (chances, [MIXED, [5, 1]], {}),
        (are_chances, [EXAMPLE, [1], [(2, 3), (1, 1), (0, 1)]], {}),
        (shares, [MIXED, [1, 2]], {}),
        (shares, [MIXED, [3]], {}),
        (are_rewards, [PAID, [(3, 1), (6, 1), (0, 1)]], {}),
    ]


def mean(chain, place, values):
    return sum(chance * values[x] for x, chance in moves_of(chain, place).items())


def ring(amounts):
    many = len(amounts)
    return [("reward", as_number(amount), (place + 1) % many) for place, amount in enumerate(amounts)]


def classes_by_definition(chain):
    ways = [reached(chain, place) for place in range(len(chain))]
    found = {tuple(ways[place]) for place in range(len(chain)) if all(place in ways[x] for x in ways[place])}
    return [list(places) for places in sorted(found)]


def places_that_reach(chain, places):
    return [place for place in range(len(chain)) if set(reached(chain, place)) & set(places)]


class CheckChain(unittest.TestCase):
    def test_chains(self):
        for chain in (EXAMPLE, PAID, MIXED, [("finish",)], [("lose",)] * 30):
            self.assertIsNone(check_chain(chain))

    def test_the_first_place_of_a_side(self):
        for game, place in [
            (EVERY_KIND, 1), ([("ours", [0])], 0), ([("theirs", [0])], 0), (EXAMPLE + [("theirs", [0])], 3),
            (EXAMPLE + [("theirs", [0]), ("ours", [0])], 3), ([("lose",)] * 29 + [("ours", [0])], 29),
        ]:
            with self.assertRaises(NotChain) as caught:
                check_chain(game)
            self.assertEqual(caught.exception.place, place)


class Chances(unittest.TestCase):
    def test_the_example_of_the_interface(self):
        self.assertEqual(chances(EXAMPLE, [1]), [(2, 3), (1, 1), (0, 1)])

    def test_no_goals(self):
        for chain in (EXAMPLE, PAID, MIXED, ALONE, [("finish",)]):
            self.assertEqual(chances(chain, []), [(0, 1)] * len(chain))

    def test_all_places_are_goals(self):
        self.assertEqual(chances(MIXED, [6, 5, 4, 3, 2, 1, 0]), [(1, 1)] * 7)

    def test_goals_in_any_order(self):
        due = [(1, 2), (1, 1), (1, 1), (0, 1), (0, 1), (1, 1), (0, 1)]
        for goals in ([1, 2, 5], [5, 2, 1], [2, 5, 1], [2, 5], [5, 1], [5, 5, 1]):
            self.assertEqual(chances(MIXED, goals), due)

    def test_goals_that_are_no_ends(self):
        self.assertEqual(chances(EXAMPLE, [0]), [(1, 1), (0, 1), (0, 1)])
        self.assertEqual(chances(PAID, [1]), [(1, 2), (1, 1), (0, 1)])
        self.assertEqual(chances(PAID, [2]), [(1, 1), (1, 1), (1, 1)])
        self.assertEqual(chances(PAID, [0]), [(1, 1), (1, 1), (0, 1)])

    def test_places_that_reach_no_goal(self):
        self.assertEqual(chances(ALONE, [0]), [(1, 1), (0, 1), (0, 1), (0, 1)])
        self.assertEqual(chances(ring([1, 0, 2]) + [("finish",)], [3]), [(0, 1)] * 3 + [(1, 1)])
        self.assertEqual(chances(MIXED, [4]), [(1, 4), (0, 1), (0, 1), (0, 1), (1, 1), (0, 1), (1, 1)])

    def test_two_ways_to_one_end(self):
        # At each place from 1 to 28 the play goes one up with chance 2/3, one down with chance 1/3.
        walk = [("lose",)]
        walk += [("draw", [((2, 3), place + 1), ((1, 3), place - 1)]) for place in range(1, 29)]
        walk += [("finish",)]
        due = [as_number(Fraction(2 ** 29 - 2 ** (29 - place), 2 ** 29 - 1)) for place in range(30)]
        self.assertEqual(chances(walk, [29]), due)

    def test_many_chains(self):
        chance = random.Random("meet")
        for chain in random_chains("meet", 400):
            goals = [chance.randrange(len(chain)) for _ in range(chance.randint(0, 3))]
            found = chances(chain, goals)
            self.assertTrue(all(is_number(number) for number in found))
            values = fractions(found)
            self.assertEqual(len(values), len(chain))
            lead = places_that_reach(chain, goals)
            for place, value in enumerate(values):
                if place in goals:
                    self.assertEqual(value, 1)
                elif place not in lead:
                    self.assertEqual(value, 0)
                else:
                    self.assertEqual(value, mean(chain, place, values))

    def test_no_chance_within_some_steps_is_greater(self):
        for chain in random_chains("limit", 50):
            goals = places_of(chain, "finish")
            for steps in (3, 40):
                for some, whole in zip(finished_within(chain, steps=steps), chances(chain, goals)):
                    self.assertLessEqual(compare(some, whole), 0)

    def test_long_chances(self):
        whole = 10 ** 60
        chain = [("draw", [((1, whole), 0), ((1, whole), 1), ((whole - 2, whole), 2)]), ("finish",), ("lose",)]
        self.assertEqual(chances(chain, [1]), [(1, whole - 1), (1, 1), (0, 1)])


class AreChances(unittest.TestCase):
    def test_the_chances(self):
        self.assertIs(are_chances(EXAMPLE, [1], [(2, 3), (1, 1), (0, 1)]), True)
        self.assertIs(are_chances(EXAMPLE, [], [(0, 1)] * 3), True)

    def test_others(self):
        for numbers in ([(1, 2), (1, 1), (0, 1)], [(2, 3), (0, 1), (0, 1)], [(2, 3), (1, 1), (1, 1)], [(1, 1)] * 3,
                        [(10 ** 40, 3), (1, 1), (0, 1)], [(-2, 3), (1, 1), (0, 1)]):
            self.assertIs(are_chances(EXAMPLE, [1], numbers), False)

    def test_means_that_are_not_0_where_no_goal_is_reached(self):
        self.assertIs(are_chances(ALONE, [0], [(1, 1), (0, 1), (0, 1), (0, 1)]), True)
        for place in (2, 3):
            numbers = [(1, 1), (0, 1), (0, 1), (0, 1)]
            numbers[place] = (1, 2)
            self.assertIs(are_chances(ALONE, [0], numbers), False)
        self.assertIs(are_chances(ring([0, 0]) + [("finish",)], [2], [(1, 1)] * 3), False)
        self.assertIs(are_chances(ring([0, 0]) + [("finish",)], [2], [(1, 3), (1, 3), (1, 1)]), False)

    def test_other_lengths(self):
        right = [(2, 3), (1, 1), (0, 1)]
        for numbers in ([], right[:-1], right[1:], right + [(0, 1)], right * 2):
            self.assertIs(are_chances(EXAMPLE, [1], numbers), False)

    def test_many_chains(self):
        chance = random.Random("told")
        for chain in random_chains("told", 100):
            goals = [chance.randrange(len(chain)) for _ in range(chance.randint(0, 3))]
            right = chances(chain, goals)
            self.assertIs(are_chances(chain, goals, list(right)), True)
            for place in range(len(chain)):
                wrong = list(right)
                wrong[place] = as_number(fraction(wrong[place]) + Fraction(1, 7))
                self.assertIs(are_chances(chain, goals, wrong), False)


class ClosedClasses(unittest.TestCase):
    def test_in_the_order_of_their_first_places(self):
        self.assertEqual(closed_classes(MIXED), [[1, 2], [3], [4], [5]])
        self.assertEqual(closed_classes(EXAMPLE), [[1], [2]])
        self.assertEqual(closed_classes(PAID), [[2]])
        self.assertEqual(closed_classes(ALONE), [[0], [1], [2], [3]])

    def test_rings(self):
        self.assertEqual(closed_classes(ring([1] * 30)), [list(range(30))])
        two = [("reward", (1, 1), (place + 2) % 6) for place in range(6)]
        self.assertEqual(closed_classes(two), [[0, 2, 4], [1, 3, 5]])
        crossed = [("reward", (1, 1), 3), ("reward", (1, 1), 2), ("reward", (1, 1), 1), ("reward", (1, 1), 0)]
        self.assertEqual(closed_classes(crossed), [[0, 3], [1, 2]])

    def test_a_class_with_a_way_out_is_not_closed(self):
        chain = [("draw", [(HALF, 1), (HALF, 2)]), ("reward", (1, 1), 0), ("reward", (0, 1), 3), ("reward", (0, 1), 2)]
        self.assertEqual(closed_classes(chain), [[2, 3]])

    def test_many_chains(self):
        for chain in random_chains("classes", 300):
            self.assertEqual(closed_classes(chain), classes_by_definition(chain))


class Shares(unittest.TestCase):
    def test_a_ring(self):
        for many in (1, 2, 5, 30):
            self.assertEqual(shares(ring([1] * many), list(range(many))), [(1, many)] * many)

    def test_uneven_chances(self):
        self.assertEqual(shares(MIXED, [1, 2]), [(1, 4), (3, 4)])
        chain = [("draw", [((1, 2), 0), ((1, 3), 1), ((1, 6), 1)]), ("reward", (1, 1), 2), ("reward", (0, 1), 0)]
        self.assertEqual(shares(chain, [0, 1, 2]), [(1, 2), (1, 4), (1, 4)])

    def test_classes_of_one_place(self):
        for place in range(4):
            self.assertEqual(shares(ALONE, [place]), [(1, 1)])

    def test_many_chains(self):
        sizes = []
        for chain in random_chains("shares", 400):
            for closed in closed_classes(chain):
                found = shares(chain, closed)
                sizes.append(len(found))
                self.assert_shares(chain, closed, found)
        self.assertGreater(max(sizes), 3)

    def assert_shares(self, chain, closed, found):
        self.assertTrue(all(is_number(share) for share in found))
        self.assertEqual(len(found), len(closed))
        self.assertEqual(total(found), (1, 1))
        told = dict(zip(closed, fractions(found)))
        self.assertGreater(min(told.values()), 0)
        for x in closed:
            # A play that has ended stays there.
            ways = [(place, moves_of(chain, place) or {place: 1}) for place in closed]
            self.assertEqual(told[x], sum(told[place] * moves.get(x, 0) for place, moves in ways))

    def test_the_shares_of_a_long_play(self):
        chain = [("draw", [((1, 10), 0), ((9, 10), 1)]), ("draw", [((1, 2), 0), ((1, 2), 1)])]
        masses = masses_after(chain, 0, steps=40)
        for mass, share in zip(masses, shares(chain, [0, 1])):
            self.assertLess(abs(fraction(mass) - fraction(share)), Fraction(1, 10 ** 12))


def expected_by_definition(test, chain, found, gains, endless):
    """Check all that points 40 and 41 say of the expected numbers; no other numbers fulfill it."""
    test.assertEqual(len(found), len(chain))
    infinite = places_that_reach(chain, endless)
    test.assertEqual([place for place, number in enumerate(found) if number is None], infinite)
    test.assertTrue(all(number is None or is_number(number) for number in found))
    values = [None if number is None else fraction(number) for number in found]
    gaining = places_that_reach(chain, [place for place, gain in enumerate(gains) if gain])
    for place, value in enumerate(values):
        if place not in infinite:
            due = gains[place] + mean(chain, place, values) if place in gaining else 0
            test.assertEqual(value, due)


class ExpectedSteps(unittest.TestCase):
    def test_ends(self):
        self.assertEqual(expected_steps([("finish",), ("lose",)]), [(0, 1), (0, 1)])

    def test_steps_of_draws_and_rewards(self):
        self.assertEqual(expected_steps(EXAMPLE), [(2, 1), (0, 1), (0, 1)])
        self.assertEqual(expected_steps(PAID), [(3, 1), (4, 1), (0, 1)])
        way = [("reward", (0, 1), place + 1) for place in range(29)] + [("lose",)]
        self.assertEqual(expected_steps(way), [(29 - place, 1) for place in range(30)])

    def test_infinite_ones(self):
        self.assertEqual(expected_steps(ALONE), [(0, 1), (0, 1), None, None])
        self.assertEqual(expected_steps(MIXED), [None, None, None, None, (0, 1), (0, 1), (1, 1)])
        self.assertEqual(expected_steps(ring([0, 0])), [None, None])
        chain = [("draw", [((998, 999), 1), ((1, 999), 2)]), ("finish",), ("reward", (0, 1), 2)]
        self.assertEqual(expected_steps(chain), [None, (0, 1), None])

    def test_many_chains(self):
        finite = 0
        for chain in random_chains("steps", 400):
            gains = [int(row[0] not in ("finish", "lose")) for row in chain]
            endless = [place for places in classes_by_definition(chain) for place in places if gains[place]]
            found = expected_steps(chain)
            expected_by_definition(self, chain, found, gains, endless)
            finite += None not in found
        self.assertGreater(finite, 50)


class ExpectedRewards(unittest.TestCase):
    def test_the_example_of_the_interface(self):
        self.assertEqual(expected_rewards(PAID), [(3, 1), (6, 1), (0, 1)])

    def test_no_rewards(self):
        self.assertEqual(expected_rewards(EXAMPLE), [(0, 1)] * 3)
        self.assertEqual(expected_rewards(ALONE), [(0, 1)] * 4)

    def test_rewards_of_amount_0_on_a_ring(self):
        self.assertEqual(expected_rewards(ring([0, 0, 0])), [(0, 1)] * 3)
        self.assertEqual(expected_rewards(ring([0, 0]) + [("reward", (5, 2), 0)]), [(0, 1), (0, 1), (5, 2)])
        self.assertEqual(expected_rewards(MIXED), [(0, 1)] * 6 + [(1, 2)])

    def test_infinite_ones(self):
        self.assertEqual(expected_rewards(ring([0, 1, 0]) + [("lose",)]), [None, None, None, (0, 1)])
        chain = [("draw", [((998, 999), 1), ((1, 999), 2)]), ("reward", (1, 1), 3), ("reward", (1, 999), 2),
                 ("finish",)]
        self.assertEqual(expected_rewards(chain), [None, (1, 1), None, (0, 1)])
        chain = [("draw", [(HALF, 0), (HALF, 1)]), ("reward", (1, 2), 0), ("reward", (1, 2), 3), ("lose",)]
        self.assertEqual(expected_rewards(chain), [None, None, (1, 2), (0, 1)])

    def test_rewards_that_are_got_again_and_again(self):
        chain = [("reward", (1, 1), 1), ("draw", [((9, 10), 0), ((1, 10), 2)]), ("finish",)]
        self.assertEqual(expected_rewards(chain), [(10, 1), (9, 1), (0, 1)])
        chain = [("reward", (2, 3), 1), ("reward", (1, 3), 2), ("draw", [(HALF, 0), ((1, 4), 1), ((1, 4), 3)]),
                 ("lose",)]
        self.assertEqual(expected_rewards(chain), [(10, 3), (8, 3), (7, 3), (0, 1)])

    def test_many_chains(self):
        kinds = set()
        for chain in random_chains("rewards", 500):
            gains = [fraction(row[1]) if row[0] == "reward" else Fraction(0) for row in chain]
            endless = [place for places in classes_by_definition(chain) for place in places
                       if any(gains[x] for x in places)]
            found = expected_rewards(chain)
            expected_by_definition(self, chain, found, gains, endless)
            kinds.update("infinite" if number is None else number != (0, 1) for number in found)
        self.assertEqual(kinds, {"infinite", True, False})


class AreRewards(unittest.TestCase):
    def test_the_expected_rewards(self):
        self.assertIs(are_rewards(PAID, [(3, 1), (6, 1), (0, 1)]), True)
        self.assertIs(are_rewards(ring([1, 0]) + [("lose",)], [None, None, (0, 1)]), True)

    def test_others(self):
        for numbers in ([(3, 1), (6, 1), (1, 1)], [(3, 1), (5, 1), (0, 1)], [(0, 1)] * 3, [(3, 1), (3, 1), (0, 1)],
                        [(10 ** 40, 1), (6, 1), (0, 1)], [(-3, 1), (6, 1), (0, 1)]):
            self.assertIs(are_rewards(PAID, numbers), False)

    def test_none_at_a_wrong_place(self):
        for numbers in ([None, (6, 1), (0, 1)], [(3, 1), None, (0, 1)], [(3, 1), (6, 1), None], [None] * 3):
            self.assertIs(are_rewards(PAID, numbers), False)
        for numbers in ([(0, 1), None, (0, 1)], [None, (0, 1), (0, 1)], [None] * 3, [(0, 1)] * 3):
            self.assertIs(are_rewards(ring([1, 0]) + [("lose",)], numbers), False)

    def test_means_that_are_not_0_where_no_reward_is_reached(self):
        self.assertIs(are_rewards(ring([0, 0]), [(0, 1), (0, 1)]), True)
        self.assertIs(are_rewards(ring([0, 0]), [(1, 1), (1, 1)]), False)
        self.assertIs(are_rewards(ring([0, 0]), [None, None]), False)
        self.assertIs(are_rewards(ALONE, [(0, 1), (0, 1), (7, 1), (0, 1)]), False)

    def test_other_lengths(self):
        right = [(3, 1), (6, 1), (0, 1)]
        for numbers in ([], right[:-1], right[1:], right + [(0, 1)], right + [None], right * 2):
            self.assertIs(are_rewards(PAID, numbers), False)

    def test_many_chains(self):
        for chain in random_chains("paid", 100):
            right = expected_rewards(chain)
            self.assertIs(are_rewards(chain, list(right)), True)
            for place, number in enumerate(right):
                others = [(0, 1)] if number is None else [None, as_number(fraction(number) + 1)]
                for other in others:
                    self.assertIs(are_rewards(chain, right[:place] + [other] + right[place + 1:]), False)


if __name__ == "__main__":
    unittest.main()
