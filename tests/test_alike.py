"""Points 58 to 63: kinds, alike divisions, tests that tell places apart, quotients."""

import random
import unittest
from fractions import Fraction

from oddkeep.alike import (
    chance_into, depth, is_alike_division, kind_of, parting_round, passes, quotient, rounds, telling_test,
)
from oddkeep.chains import chances, check_chain, expected_rewards, expected_steps
from oddkeep.numbers import total
from tests.helping import HALF, ArgumentsStay, as_number, fraction, moves_of, random_chains

EXAMPLE = [("draw", [((1, 2), 2), ((1, 2), 3)]), ("draw", [((1, 3), 2), ((2, 3), 3)]), ("finish",), ("lose",)]
# 0 and 1 are alike, though their branches are different; 2 and 3 pay the same, 4 pays more; 5 to 7 are ends.
PAIRS = [
    ("draw", [((1, 3), 2), ((1, 6), 3), ((1, 2), 5)]),
    ("draw", [(HALF, 6), (HALF, 3)]),
    ("reward", (1, 1), 0),
    ("reward", (1, 1), 1),
    ("reward", (2, 1), 0),
    ("finish",),
    ("finish",),
    ("lose",),
]
PAIRED = [[0, 1], [2, 3], [4], [5, 6], [7]]
# Each place is one step further away from the end than the next one, so that each round parts one more of them.
STEPS = [("draw", [((1, 1), place + 1)]) for place in range(11)] + [("lose",)]
FINISH = ("kind", ("finish",))
LOSE = ("kind", ("lose",))
DRAW = ("kind", ("draw",))


class Arguments(ArgumentsStay, unittest.TestCase):
    CALLS = [
        (call, [chain], {}) for call in (rounds, quotient) for chain in (EXAMPLE, PAIRS, STEPS)
    ] + [
        (kind_of, [PAIRS, 2], {}),
        (chance_into, [PAIRS, 0, [5, 3]], {}),
        (is_alike_division, [PAIRS, PAIRED], {}),
        (is_alike_division, [PAIRS, [[7, 0], []]], {}),
        (parting_round, [STEPS, 0, 1], {}),
        (passes, [PAIRS, 0, ("next", HALF, ("both", FINISH, ("not", LOSE)))], {}),
        (depth, [("next", HALF, ("both", FINISH, ("not", LOSE)))], {}),
        (telling_test, [STEPS, 0, 1], {}),
        (telling_test, [PAIRS, 0, 1], {}),
    ]


def close_chains(seed, count, most_places=7):
    """Chains in which many places are of one kind and lead to places near by, so that more rounds are needed."""
    chance = random.Random(seed)
    found = []
    for _ in range(count):
        many = chance.randint(3, most_places)
        ways = chance.randint(1, 3)
        rows = []
        for place in range(many - 1):
            near = [min(many - 1, max(0, place + chance.choice((-1, 0, 1, 1, 2)))) for _ in range(ways)]
            row = ("draw", [((1, ways), x) for x in near])
            rows.append(row if chance.random() < 0.9 else ("reward", (1, 1), near[0]))
        found.append(rows + [("lose",)])
    return found


def divisions_by_definition(chain):
    """All divisions of the rounds, from the relation that point 60 defines; the last one comes twice."""
    places = range(len(chain))
    kinds = [(row[0], row[1] if row[0] == "reward" else None) for row in chain]
    alike = {(one, other) for one in places for other in places if kinds[one] == kinds[other]}
    found = []
    while True:
        classes = []
        for place in places:
            members = [other for other in places if (place, other) in alike]
            if members not in classes:
                classes.append(members)
        if classes in found:
            return found
        found.append(classes)
        into = [[sum(moves_of(chain, place).get(x, 0) for x in members) for members in classes] for place in places]
        alike = {(one, other) for one, other in alike if into[one] == into[other]}


def passing(chain, test):
    """The places that pass the test, as point 61 says."""
    places = set(range(len(chain)))
    if test[0] == "kind":
        # An amount stands behind the word of a reward, in its place and in its kind alike.
        return {place for place in places if chain[place][:len(test[1])] == test[1]}
    if test[0] == "not":
        return places - passing(chain, test[1])
    if test[0] == "both":
        return passing(chain, test[1]) & passing(chain, test[2])
    inner = passing(chain, test[2])
    return {place for place in places
            if sum(moves_of(chain, place).get(x, 0) for x in inner) >= fraction(test[1])}


def depth_by_definition(test):
    inner = [depth_by_definition(part) for part in test[1:] if test[0] != "kind" and isinstance(part[0], str)]
    return max(inner, default=0) + (test[0] == "next")


def parts_in(test):
    return 1 + sum(parts_in(part) for part in test[1:] if test[0] != "kind" and isinstance(part[0], str))


def random_test(chance, levels):
    word = chance.choice(("kind", "not", "both", "next", "next")) if levels else "kind"
    if word == "kind":
        return ("kind", chance.choice([("draw",), ("finish",), ("lose",), ("reward", (0, 1)), ("reward", (1, 1))]))
    if word == "not":
        return ("not", random_test(chance, levels - 1))
    if word == "both":
        return ("both", random_test(chance, levels - 1), random_test(chance, levels - 1))
    return ("next", as_number(Fraction(chance.randint(-1, 7), 6)), random_test(chance, levels - 1))


class KindOf(unittest.TestCase):
    def test_kinds(self):
        self.assertEqual([kind_of(PAIRS, place) for place in (0, 2, 4, 5, 7)],
                         [("draw",), ("reward", (1, 1)), ("reward", (2, 1)), ("finish",), ("lose",)])
        self.assertEqual(kind_of([("reward", (0, 1), 0)], 0), ("reward", (0, 1)))


class ChanceInto(unittest.TestCase):
    def test_a_draw(self):
        for places, due in [([5], (1, 2)), ([3, 2], (1, 2)), ([2], (1, 3)), ([5, 3, 2], (1, 1)), ([0, 1, 6], (0, 1)),
                            ([], (0, 1)), ([7, 3, 5], (2, 3)), (list(range(8)), (1, 1))]:
            self.assertEqual(chance_into(PAIRS, 0, places), due)
        twice = [("draw", [((1, 4), 1), ((1, 4), 0), ((1, 2), 1)]), ("lose",)]
        self.assertEqual(chance_into(twice, 0, [1]), (3, 4))

    def test_a_reward(self):
        for places, due in [([0], (1, 1)), ([5, 0], (1, 1)), ([2], (0, 1)), ([], (0, 1)), ([1, 2, 3], (0, 1))]:
            self.assertEqual(chance_into(PAIRS, 2, places), due)

    def test_ends(self):
        for place in (5, 7):
            self.assertEqual(chance_into(PAIRS, place, list(range(8))), (0, 1))
            self.assertEqual(chance_into(PAIRS, place, [place]), (0, 1))


class IsAlikeDivision(unittest.TestCase):
    def test_alike_ones(self):
        self.assertIs(is_alike_division(PAIRS, PAIRED), True)
        self.assertIs(is_alike_division(PAIRS, [[place] for place in range(8)]), True)
        self.assertIs(is_alike_division(PAIRS, [[0], [1], [2], [3], [4], [5, 6], [7]]), True)
        self.assertIs(is_alike_division(EXAMPLE, [[0], [1], [2], [3]]), True)
        self.assertIs(is_alike_division([("lose",)] * 30, [list(range(30))]), True)
        self.assertIs(is_alike_division([("finish",)], [[0]]), True)

    def test_other_kinds_and_amounts_in_a_class(self):
        self.assertIs(is_alike_division(PAIRS, [[0, 1], [2, 3, 4], [5, 6], [7]]), False)
        self.assertIs(is_alike_division(PAIRS, [[0, 1], [2, 3], [4], [5, 6, 7]]), False)
        self.assertIs(is_alike_division([("finish",), ("lose",)], [[0, 1]]), False)

    def test_other_chances_in_a_class(self):
        self.assertIs(is_alike_division(EXAMPLE, [[0, 1], [2], [3]]), False)
        self.assertIs(is_alike_division(PAIRS, [[0, 1], [2], [3], [4], [5, 6], [7]]), False)
        self.assertIs(is_alike_division(PAIRS, [[0, 1], [2, 3], [4], [5], [6], [7]]), False)
        self.assertIs(is_alike_division(PAIRS, [[0], [1], [2, 3], [4], [5, 6], [7]]), False)

    def test_lists_that_are_no_division(self):
        for classes in ([], [[]], [*PAIRED, []], [[], *PAIRED], PAIRED[1:], PAIRED[:-1], [*PAIRED, [7]], [*PAIRED, [0]],
                        [[0, 1], [3, 2], [4], [5, 6], [7]], [[0, 1], [2, 3], [5, 6], [4], [7]], PAIRED[::-1],
                        [[0, 1], [2, 3, 3], [4], [5, 6], [7]], [[0, 0, 1], [2, 3], [4], [5, 6], [7]],
                        [[0, 1], [2, 3], [2, 3], [4], [5, 6], [7]], [[1, 0], [2, 3], [4], [5, 6], [7]],
                        [[0, 1], [2, 3], [4], [5, 6]], [[0, 1], [2], [4], [5, 6], [7]],
                        [[0, 1], [], [2, 3], [4], [5, 6], [7]]):
            with self.subTest(classes=classes):
                self.assertIs(is_alike_division(PAIRS, classes), False)

    def test_by_the_definition(self):
        chance = random.Random("divisions")
        seen = {True: 0, False: 0}
        for chain in close_chains("divisions", 300, 5) + random_chains("divisions", 100, 4):
            coarsest = rounds(chain)[-1]
            marks = [chance.randrange(len(chain)) for _ in chain]
            if chance.random() < 0.5:
                # Some of the places that are alike are parted.
                marks = [(at, chance.random() < 0.2) for place in range(len(chain))
                         for at, members in enumerate(coarsest) if place in members]
            classes = []
            for mark in dict.fromkeys(marks):
                classes.append([place for place in range(len(chain)) if marks[place] == mark])
            due = self.holds(chain, classes)
            seen[due] += 1
            self.assertIs(is_alike_division(chain, classes), due)
            if due:
                self.assertTrue(all(any(set(members) <= set(whole) for whole in coarsest) for members in classes))
        self.assertGreater(min(seen.values()), 50)

    def holds(self, chain, classes):
        into = [[sum(moves_of(chain, place).get(x, 0) for x in members) for members in classes]
                for place in range(len(chain))]
        return all(kind_of(chain, one) == kind_of(chain, other) and into[one] == into[other]
                   for members in classes for one in members for other in members)


class Rounds(unittest.TestCase):
    def test_the_example_of_the_interface(self):
        self.assertEqual(rounds(EXAMPLE), [[[0, 1], [2], [3]], [[0], [1], [2], [3]]])

    def test_no_more_rounds_than_needed(self):
        self.assertEqual(rounds(PAIRS), [PAIRED])
        self.assertEqual(rounds([("finish",)]), [[[0]]])
        self.assertEqual(rounds([("lose",), ("finish",), ("lose",)]), [[[0, 2], [1]]])
        self.assertEqual(rounds([("draw", [((1, 1), place)]) for place in range(30)]), [[list(range(30))]])

    def test_one_place_in_each_round(self):
        found = rounds(STEPS)
        self.assertEqual(len(found), 11)
        for at, classes in enumerate(found):
            whole = [list(range(11 - at))] + [[place] for place in range(11 - at, 12)]
            self.assertEqual(classes, whole)

    def test_thirty_places(self):
        way = [("reward", (1, 1), place + 1) for place in range(29)] + [("lose",)]
        self.assertEqual(len(rounds(way)), 29)
        self.assertEqual(rounds(way)[-1], [[place] for place in range(30)])

    def test_amounts(self):
        chain = [("reward", (1, 2), 3), ("reward", (1, 1), 3), ("reward", (1, 2), 3), ("lose",)]
        self.assertEqual(rounds(chain), [[[0, 2], [1], [3]]])

    def test_by_the_definition(self):
        longest = 0
        for chain in random_chains("rounds", 200) + close_chains("rounds", 300, 9):
            found = rounds(chain)
            self.assertEqual(found, divisions_by_definition(chain))
            self.assertIs(is_alike_division(chain, found[-1]), True)
            self.assertFalse(any(is_alike_division(chain, classes) for classes in found[:-1]))
            longest = max(longest, len(found))
        self.assertGreater(longest, 5)


class PartingRound(unittest.TestCase):
    def test_the_example(self):
        self.assertEqual(parting_round(EXAMPLE, 0, 1), 1)
        self.assertEqual(parting_round(EXAMPLE, 0, 2), 0)
        self.assertEqual(parting_round(EXAMPLE, 3, 2), 0)

    def test_alike_places(self):
        for one, other in [(0, 1), (1, 0), (2, 3), (6, 5), (4, 4), (0, 0), (7, 7)]:
            self.assertIsNone(parting_round(PAIRS, one, other))

    def test_later_rounds(self):
        for one in range(12):
            for other in range(12):
                due = None if one == other else 11 - max(one, other)
                self.assertEqual(parting_round(STEPS, one, other), due)

    def test_by_the_definition(self):
        for chain in close_chains("parting", 100):
            told = divisions_by_definition(chain)
            for one in range(len(chain)):
                for other in range(len(chain)):
                    apart = [at for at, classes in enumerate(told)
                             if not any(one in members and other in members for members in classes)]
                    self.assertEqual(parting_round(chain, one, other), apart[0] if apart else None)


class Passes(unittest.TestCase):
    def assert_passing(self, test, places):
        for place in range(8):
            self.assertIs(passes(PAIRS, place, test), place in places)

    def test_kinds(self):
        self.assert_passing(DRAW, [0, 1])
        self.assert_passing(FINISH, [5, 6])
        self.assert_passing(LOSE, [7])
        self.assert_passing(("kind", ("reward", (1, 1))), [2, 3])
        self.assert_passing(("kind", ("reward", (2, 1))), [4])
        self.assert_passing(("kind", ("reward", (3, 1))), [])

    def test_not_and_both(self):
        self.assert_passing(("not", DRAW), [2, 3, 4, 5, 6, 7])
        self.assert_passing(("not", ("not", DRAW)), [0, 1])
        self.assert_passing(("both", ("not", DRAW), ("not", LOSE)), [2, 3, 4, 5, 6])
        self.assert_passing(("both", DRAW, LOSE), [])
        self.assert_passing(("both", DRAW, DRAW), [0, 1])
        self.assert_passing(("both", ("next", HALF, FINISH), DRAW), [0, 1])
        self.assert_passing(("both", LOSE, ("not", FINISH)), [7])
        self.assert_passing(("both", ("not", FINISH), LOSE), [7])

    def test_next(self):
        self.assert_passing(("next", HALF, FINISH), [0, 1])
        self.assert_passing(("next", (501, 1000), FINISH), [])
        self.assert_passing(("next", (499, 1000), FINISH), [0, 1])
        self.assert_passing(("next", (1, 1), DRAW), [2, 3, 4])
        self.assert_passing(("next", (0, 1), LOSE), range(8))
        self.assert_passing(("next", (1, 10 ** 40), DRAW), [2, 3, 4])
        self.assert_passing(("next", (-5, 1), DRAW), range(8))
        self.assert_passing(("next", (10 ** 40, 1), DRAW), [])
        self.assert_passing(("next", (1, 1), ("next", HALF, FINISH)), [2, 3, 4])
        self.assert_passing(("next", HALF, ("next", (1, 1), DRAW)), [0, 1])
        self.assert_passing(("next", (1, 1), ("not", LOSE)), [0, 1, 2, 3, 4])

    def test_many_tests(self):
        chance = random.Random("passes")
        for chain in random_chains("passes", 200) + close_chains("passes", 100):
            for _ in range(5):
                test = random_test(chance, 4)
                due = passing(chain, test)
                self.assertEqual([place for place in range(len(chain)) if passes(chain, place, test)], sorted(due))

    def test_alike_places_pass_the_same_tests(self):
        chance = random.Random("alike")
        for chain in random_chains("alike", 200) + close_chains("alike", 200):
            for _ in range(5):
                places = passing(chain, random_test(chance, 4))
                for members in rounds(chain)[-1]:
                    self.assertIn(len(places.intersection(members)), (0, len(members)))

    def test_tests_within_many_tests(self):
        test = FINISH
        for _ in range(3000):
            test = ("not", test)
        self.assertIs(passes(PAIRS, 5, test), True)
        self.assertIs(passes(PAIRS, 0, ("not", test)), True)


class Depth(unittest.TestCase):
    def test_depths(self):
        for test, due in [
            (DRAW, 0), (("kind", ("reward", (1, 2))), 0), (("not", LOSE), 0), (("both", LOSE, DRAW), 0),
            (("next", HALF, LOSE), 1), (("not", ("next", HALF, LOSE)), 1), (("next", HALF, ("next", HALF, LOSE)), 2),
            (("both", ("next", HALF, LOSE), DRAW), 1), (("both", DRAW, ("next", HALF, LOSE)), 1),
            (("both", ("next", HALF, ("next", HALF, LOSE)), ("next", HALF, DRAW)), 2),
            (("next", HALF, ("both", DRAW, ("not", ("next", HALF, LOSE)))), 2),
        ]:
            with self.subTest(test=test):
                self.assertEqual(depth(test), due)

    def test_many_tests(self):
        chance = random.Random("depth")
        for _ in range(300):
            test = random_test(chance, 5)
            self.assertEqual(depth(test), depth_by_definition(test))

    def test_tests_within_many_tests(self):
        test = ("next", HALF, LOSE)
        for _ in range(3000):
            test = ("next", HALF, ("not", test))
        self.assertEqual(depth(test), 3001)


class TellingTest(unittest.TestCase):
    def assert_told(self, chain, one, other):
        test = telling_test(chain, one, other)
        parted = parting_round(chain, one, other)
        if parted is None:
            self.assertIsNone(test)
            return
        self.assertIn(one, passing(chain, test))
        self.assertNotIn(other, passing(chain, test))
        self.assertEqual(depth_by_definition(test), parted)
        # Tests are made of tests, but they stay short.
        self.assertLess(parts_in(test), 200)
        self.assertIs(passes(chain, one, test), True)
        self.assertIs(passes(chain, other, test), False)
        self.assertEqual(depth(test), parted)

    def test_told_chains(self):
        for chain in (EXAMPLE, PAIRS, STEPS, [("finish",)], [("lose",), ("finish",)]):
            for one in range(len(chain)):
                for other in range(len(chain)):
                    self.assert_told(chain, one, other)

    def test_alike_places(self):
        for one, other in [(0, 1), (3, 2), (5, 5)]:
            self.assertIsNone(telling_test(PAIRS, one, other))

    def test_many_chains(self):
        deepest = 0
        chance = random.Random("telling")
        for chain in random_chains("telling", 60) + close_chains("telling", 80, 12):
            for one in range(len(chain)):
                self.assert_told(chain, one, chance.randrange(len(chain)))
            deepest = max(deepest, len(rounds(chain)))
        self.assertGreater(deepest, 7)

    def test_no_lesser_depth_would_do(self):
        chance = random.Random("lesser")
        for chain in close_chains("lesser", 100):
            for _ in range(20):
                test = random_test(chance, 3)
                places = passing(chain, test)
                for one in places:
                    for other in set(range(len(chain))) - places:
                        self.assertGreaterEqual(depth(test), parting_round(chain, one, other))


class Quotient(unittest.TestCase):
    def test_the_classes_are_its_places(self):
        self.assertEqual(quotient(PAIRS), [
            ("draw", [(HALF, 1), (HALF, 3)]), ("reward", (1, 1), 0), ("reward", (2, 1), 0), ("finish",), ("lose",),
        ])
        self.assertEqual(quotient(EXAMPLE), EXAMPLE)
        self.assertEqual(quotient([("lose",)] * 30), [("lose",)])
        self.assertEqual(quotient([("reward", (0, 1), place) for place in range(30)]), [("reward", (0, 1), 0)])

    def test_branches_in_the_order_of_the_classes(self):
        chain = [("draw", [((1, 6), 3), ((1, 6), 0), ((1, 3), 2), ((1, 3), 1)]), ("finish",), ("lose",), ("finish",)]
        self.assertEqual(quotient(chain), [("draw", [((1, 6), 0), (HALF, 1), ((1, 3), 2)]), ("finish",), ("lose",)])
        self.assertEqual(quotient([("draw", [(HALF, 1), (HALF, 1)]), ("lose",)]), [("draw", [((1, 1), 1)]), ("lose",)])

    def test_a_chance_that_is_longer_than_a_short_number(self):
        chain = [("draw", [((1, 62), 1), ((15, 31), 3), ((1, 74), 2), ((18, 37), 3)]), ("finish",), ("finish",),
                 ("lose",)]
        self.assertEqual(quotient(chain)[0], ("draw", [((34, 1147), 1), ((1113, 1147), 2)]))

    def test_numbers_are_those_of_the_classes(self):
        smaller = 0
        chance = random.Random("quotient")
        for chain in random_chains("quotient", 200) + close_chains("quotient", 200):
            classes = rounds(chain)[-1]
            found = quotient(chain)
            check_chain(found)
            self.assertEqual(len(found), len(classes))
            smaller += len(found) < len(chain)
            for row in found:
                if row[0] == "draw":
                    self.assertEqual(total([branch[0] for branch in row[1]]), (1, 1))
            some = [at for at in range(len(classes)) if chance.random() < 0.3]
            goals = [place for at in some for place in classes[at]]
            for whole, parts in [(chances(chain, goals), chances(found, some)),
                                 (expected_rewards(chain), expected_rewards(found)),
                                 (expected_steps(chain), expected_steps(found))]:
                for at, members in enumerate(classes):
                    self.assertEqual([whole[place] for place in members], [parts[at]] * len(members))
            self.assertEqual(quotient(found), found)
        self.assertGreater(smaller, 100)


if __name__ == "__main__":
    unittest.main()
