"""Points 16 to 19: masses, chances and values of so many steps, good moves."""

import unittest
from fractions import Fraction

from oddkeep.masses import finished_within, good_moves, masses_after, values_of_steps
from oddkeep.numbers import is_number, total
from tests.helping import (
    EVERY_KIND, HALF, ArgumentsStay, as_numbers, fraction, fractions, moves_of, random_chains, random_games,
)

CHAIN = [("draw", [(HALF, 0), (HALF, 1)]), ("finish",)]
GAME = [("ours", [1, 2]), ("draw", [((1, 3), 3), ((2, 3), 4)]), ("theirs", [0, 1]), ("finish",), ("lose",)]

# Chances with many denominators, so that the numbers become long.
LONG = [("draw", [((1, 997 - place), place), ((996 - place, 997 - place), (place + 1) % 30)]) for place in range(28)]
LONG += [("finish",), ("lose",)]


class Arguments(ArgumentsStay, unittest.TestCase):
    CALLS = [
        (masses_after, [CHAIN, 0], {"steps": 0}),
        (masses_after, [CHAIN, 0], {"steps": 3}),
        (finished_within, [CHAIN], {"steps": 0}),
        (finished_within, [CHAIN], {"steps": 3}),
        (values_of_steps, [GAME], {"steps": 0}),
        (values_of_steps, [EVERY_KIND], {"steps": 4}),
        (good_moves, [GAME], {"steps": 1}),
        (good_moves, [EVERY_KIND], {"steps": 5}),
    ]


def masses_by_definition(chain, place, steps):
    masses = [Fraction(x == place) for x in range(len(chain))]
    for _ in range(steps):
        later = [Fraction(0)] * len(chain)
        for here, mass in enumerate(masses):
            for x, chance in (moves_of(chain, here) or {here: 1}).items():
                later[x] += mass * chance
        masses = later
    return masses


def values_by_definition(game, steps):
    values = [Fraction(row[0] == "finish") for row in game]
    for _ in range(steps):
        values = [value_before(row, values) for row in game]
    return values


def value_before(row, values):
    if row[0] == "draw":
        return sum(fraction(chance) * values[x] for chance, x in row[1])
    if row[0] == "ours":
        return max(values[x] for x in row[1])
    if row[0] == "theirs":
        return min(values[x] for x in row[1])
    if row[0] == "reward":
        return values[row[2]]
    return Fraction(row[0] == "finish")


class Masses(unittest.TestCase):
    def test_the_example_of_the_interface(self):
        self.assertEqual(masses_after(CHAIN, 0, steps=3), [(1, 8), (7, 8)])

    def test_no_step(self):
        for place in range(3):
            due = [(int(x == place), 1) for x in range(3)]
            self.assertEqual(masses_after([("reward", (1, 1), 1), ("finish",), ("lose",)], place, steps=0), due)

    def test_one_step_from_each_kind(self):
        chain = [("draw", [((1, 2), 1), ((1, 3), 2), ((1, 6), 3)]), ("reward", (9, 2), 0), ("finish",), ("lose",)]
        self.assertEqual(masses_after(chain, 0, steps=1), [(0, 1), (1, 2), (1, 3), (1, 6)])
        self.assertEqual(masses_after(chain, 1, steps=1), [(1, 1), (0, 1), (0, 1), (0, 1)])
        self.assertEqual(masses_after(chain, 2, steps=1), [(0, 1), (0, 1), (1, 1), (0, 1)])
        self.assertEqual(masses_after(chain, 3, steps=1), [(0, 1), (0, 1), (0, 1), (1, 1)])

    def test_ends_stay(self):
        for row in (("finish",), ("lose",)):
            self.assertEqual(masses_after([row, ("draw", [((1, 1), 1)])], 0, steps=40), [(1, 1), (0, 1)])

    def test_a_place_that_leads_to_itself(self):
        self.assertEqual(masses_after([("reward", (1, 1), 0)], 0, steps=7), [(1, 1)])
        self.assertEqual(masses_after([("draw", [(HALF, 0), (HALF, 0)])], 0, steps=7), [(1, 1)])
        self.assertEqual(masses_after(CHAIN, 0, steps=40), [(1, 2 ** 40), (2 ** 40 - 1, 2 ** 40)])

    def test_a_draw_that_names_the_same_place_twice(self):
        chain = [("draw", [((1, 6), 1), ((1, 2), 2), ((1, 3), 1)]), ("finish",), ("lose",)]
        self.assertEqual(masses_after(chain, 0, steps=1), [(0, 1), (1, 2), (1, 2)])

    def test_a_ring(self):
        ring = [("reward", (0, 1), (place + 1) % 5) for place in range(5)]
        for steps in range(12):
            due = [(int(x == (2 + steps) % 5), 1) for x in range(5)]
            self.assertEqual(masses_after(ring, 2, steps=steps), due)

    def test_many_chains(self):
        for chain in random_chains("masses", 60):
            for steps in (0, 1, 2, 5, 11, 40):
                for place in range(len(chain)):
                    masses = masses_after(chain, place, steps=steps)
                    self.assertTrue(all(is_number(mass) for mass in masses))
                    self.assertEqual(masses, as_numbers(masses_by_definition(chain, place, steps)))
                    self.assertEqual(total(masses), (1, 1))

    def test_long_numbers(self):
        for steps in (3, 40):
            masses = masses_after(LONG, 0, steps=steps)
            self.assertEqual(masses, as_numbers(masses_by_definition(LONG, 0, steps)))
            self.assertEqual(total(masses), (1, 1))

    def test_long_chances(self):
        chance = (3 ** 100, 2 ** 200)
        chain = [("draw", [(chance, 1), ((2 ** 200 - 3 ** 100, 2 ** 200), 2)]), ("finish",), ("lose",)]
        self.assertEqual(masses_after(chain, 0, steps=2), [(0, 1), chance, (2 ** 200 - 3 ** 100, 2 ** 200)])
        self.assertEqual(finished_within(chain, steps=2), [chance, (1, 1), (0, 1)])


class FinishedWithin(unittest.TestCase):
    def test_a_chain_that_waits(self):
        for steps in range(10):
            due = [(2 ** steps - 1, 2 ** steps), (1, 1)]
            self.assertEqual(finished_within(CHAIN, steps=steps), due)

    def test_it_is_the_mass_at_the_finish_places(self):
        for chain in random_chains("finished", 40):
            ends = [place for place, row in enumerate(chain) if row[0] == "finish"]
            for steps in (0, 1, 2, 7, 40):
                due = []
                for place in range(len(chain)):
                    masses = masses_after(chain, place, steps=steps)
                    due.append(total([masses[x] for x in ends]))
                self.assertEqual(finished_within(chain, steps=steps), due)
                self.assertEqual(values_of_steps(chain, steps=steps), due)

    def test_it_never_becomes_less(self):
        for chain in random_chains("more", 20):
            last = [Fraction(0)] * len(chain)
            for steps in range(41):
                now = fractions(finished_within(chain, steps=steps))
                self.assertTrue(all(a <= b for a, b in zip(last, now)))
                last = now


class Values(unittest.TestCase):
    def test_the_example_of_the_interface(self):
        self.assertEqual(values_of_steps(GAME, steps=2), [(1, 3), (1, 3), (0, 1), (1, 1), (0, 1)])

    def test_no_step(self):
        self.assertEqual(values_of_steps(EVERY_KIND, steps=0), [(0, 1)] * 4 + [(1, 1), (0, 1)])

    def test_all_six_kinds(self):
        game = [
            ("draw", [((1, 4), 4), ((1, 4), 5), ((1, 2), 4)]),
            ("ours", [5, 0, 4]),
            ("theirs", [4, 0, 4]),
            ("reward", (5, 1), 0),
            ("finish",),
            ("lose",),
        ]
        self.assertEqual(values_of_steps(game, steps=1), [(3, 4), (1, 1), (0, 1), (0, 1), (1, 1), (0, 1)])
        self.assertEqual(values_of_steps(game, steps=2), [(3, 4), (1, 1), (3, 4), (3, 4), (1, 1), (0, 1)])
        self.assertEqual(values_of_steps(game, steps=40), [(3, 4), (1, 1), (3, 4), (3, 4), (1, 1), (0, 1)])

    def test_places_that_wait_for_ever(self):
        self.assertEqual(values_of_steps([("ours", [0, 1]), ("theirs", [0])], steps=40), [(0, 1), (0, 1)])
        self.assertEqual(values_of_steps([("theirs", [0, 1]), ("finish",)], steps=40), [(0, 1), (1, 1)])
        self.assertEqual(values_of_steps([("ours", [0, 1]), ("finish",)], steps=1), [(1, 1), (1, 1)])

    def test_a_long_way(self):
        way = [("ours", [place + 1]) for place in range(29)] + [("finish",)]
        for steps in range(41):
            due = [(int(place + steps >= 29), 1) for place in range(30)]
            self.assertEqual(values_of_steps(way, steps=steps), due)

    def test_many_games(self):
        for game in random_games("values", 60):
            for steps in (0, 1, 2, 3, 10, 40):
                values = values_of_steps(game, steps=steps)
                self.assertTrue(all(is_number(value) for value in values))
                self.assertEqual(values, as_numbers(values_by_definition(game, steps)))

    def test_they_never_become_less(self):
        for game in random_games("growing", 30):
            last = [Fraction(0)] * len(game)
            for steps in range(41):
                now = fractions(values_of_steps(game, steps=steps))
                self.assertTrue(all(a <= b <= 1 for a, b in zip(last, now)))
                last = now

    def test_long_numbers(self):
        self.assertEqual(values_of_steps(LONG, steps=40), as_numbers(values_by_definition(LONG, 40)))


class GoodMoves(unittest.TestCase):
    def test_both_sides(self):
        self.assertEqual(good_moves(GAME, steps=1), [[0, 1], [], [0, 1], [], []])
        self.assertEqual(good_moves(GAME, steps=2), [[0], [], [0], [], []])
        self.assertEqual(good_moves(GAME, steps=3), [[0], [], [0, 1], [], []])
        self.assertEqual(good_moves(GAME, steps=4), [[0, 1], [], [0, 1], [], []])

    def test_several_good_branches(self):
        rest = [("finish",), ("lose",)]
        self.assertEqual(good_moves([("ours", [2, 1, 2, 1, 1, 2])] + rest, steps=1), [[1, 3, 4], [], []])
        self.assertEqual(good_moves([("theirs", [2, 1, 2, 1, 1, 2])] + rest, steps=1), [[0, 2, 5], [], []])
        self.assertEqual(good_moves([("ours", [1, 1])] + rest, steps=9), [[0, 1], [], []])

    def test_other_places_have_none(self):
        for row in (("draw", [(HALF, 0), (HALF, 1)]), ("reward", (1, 1), 1), ("finish",), ("lose",)):
            self.assertEqual(good_moves([row, ("finish",)], steps=3), [[], []])

    def test_each_list_is_new(self):
        moves = good_moves([("lose",), ("finish",), ("ours", [0, 1]), ("ours", [0, 1])], steps=1)
        for place, kept in enumerate([[], [], [1], [1]]):
            self.assertEqual(moves[place], kept)
            moves[place].append("new")

    def test_many_games(self):
        for game in random_games("good", 100):
            for steps in (1, 2, 3, 8, 40):
                before = values_by_definition(game, steps - 1)
                now = values_by_definition(game, steps)
                due = []
                for place, row in enumerate(game):
                    ways = row[1] if row[0] in ("ours", "theirs") else []
                    due.append([branch for branch, x in enumerate(ways) if before[x] == now[place]])
                    self.assertTrue(due[-1] or not ways)
                self.assertEqual(good_moves(game, steps=steps), due)


if __name__ == "__main__":
    unittest.main()
