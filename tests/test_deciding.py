"""Points 42 to 47: what a side can do against a told strategy, upper and lower numbers, improved strategies."""

import random
import unittest
from fractions import Fraction

from oddkeep.deciding import (
    greatest_against, improved, is_lower, is_upper, least_against, least_ranks, mean_at,
)
from oddkeep.games import check_strategy, places_of, targets
from oddkeep.numbers import is_number
from tests.helping import (
    EVERY_KIND, HALF, ArgumentsStay, as_number, as_numbers, busy_games, finishing, fraction, fractions,
    greatest_by_trying, least_by_trying, random_games, strategies, values_by_trying,
)

EXAMPLE = [("ours", [1, 2]), ("theirs", [3, 4]), ("draw", [(HALF, 3), (HALF, 4)]), ("finish",), ("lose",)]
# 0 and 1 lead to each other; so do 4 and 5. At 2 a place is named twice, at 3 the play can stay.
RINGS = [
    ("ours", [1, 2]),
    ("ours", [0, 3]),
    ("draw", [((1, 4), 6), ((1, 4), 6), ((1, 2), 7)]),
    ("draw", [((1, 3), 3), ((1, 3), 6), ((1, 3), 4)]),
    ("theirs", [6, 5]),
    ("theirs", [4, 2]),
    ("finish",),
    ("lose",),
]
WAY = [("reward", (1, 1), place + 1) for place in range(28)] + [("finish",), ("lose",)]
SIX = [("draw", [((1, 6), x) for x in (1, 2, 1, 0, 1, 2)]), ("finish",), ("lose",)]


def only(game, **told):
    """A list with None for each place but the told ones."""
    return [told.get(f"at{place}") for place in range(len(game))]


class Arguments(ArgumentsStay, unittest.TestCase):
    CALLS = [
        (mean_at, [SIX, 0, [(1, 2), (1, 1), (0, 1)]], {}),
        (is_upper, [EXAMPLE, [HALF, (0, 1), HALF, (1, 1), (0, 1)]], {"theirs": only(EXAMPLE, at1=1)}),
        (is_lower, [EXAMPLE, [HALF, (0, 1), HALF, (1, 1), (0, 1)]],
         {"ours": only(EXAMPLE, at0=1), "ranks": [2, None, 1, 0, None]}),
        (least_ranks, [EXAMPLE, [HALF, (0, 1), HALF, (1, 1), (0, 1)]], {"ours": only(EXAMPLE, at0=1)}),
        (least_ranks, [EXAMPLE, [HALF, (1, 9), HALF, (1, 1), (0, 1)]], {"ours": only(EXAMPLE, at0=1)}),
        (least_against, [EXAMPLE, only(EXAMPLE, at0=1)], {}),
        (least_against, [RINGS, only(RINGS, at0=0, at1=0)], {}),
        (greatest_against, [RINGS, only(RINGS, at4=1, at5=0)], {}),
        (greatest_against, [EVERY_KIND, only(EVERY_KIND, at2=1)], {}),
        (improved, [RINGS, only(RINGS, at0=0, at1=0), [(0, 1), (0, 1), HALF, HALF, (0, 1), (0, 1), (1, 1), (0, 1)]],
         {}),
        (improved, [EXAMPLE, only(EXAMPLE, at0=1), [(1, 2), (0, 1), (1, 2), (1, 1), (0, 1)]], {}),
    ]


class MeanAt(unittest.TestCase):
    def test_means(self):
        self.assertEqual(mean_at(EXAMPLE, 2, [(0, 1), (0, 1), (1, 3), (1, 1), (0, 1)]), (1, 2))
        self.assertEqual(mean_at(EVERY_KIND, 0, [(1, 2), (1, 3), (1, 4), (0, 1), (1, 1), (0, 1)]), (1, 3))

    def test_places_that_are_named_twice_and_six_branches(self):
        self.assertEqual(mean_at(RINGS, 2, [(0, 1)] * 6 + [(1, 1), (1, 3)]), (2, 3))
        self.assertEqual(mean_at(SIX, 0, [(1, 5), (1, 1), (0, 1)]), (8, 15))

    def test_one_branch_and_long_numbers(self):
        long = (10 ** 40 - 1, 10 ** 40)
        self.assertEqual(mean_at([("draw", [((1, 1), 0)])], 0, [long]), long)
        self.assertEqual(mean_at(EXAMPLE, 2, [(0, 1)] * 3 + [long, (0, 1)]), (10 ** 40 - 1, 2 * 10 ** 40))

    def test_many_draws(self):
        chance = random.Random("means")
        for game in random_games("means", 200, kinds=("draw",)):
            numbers = [as_number(Fraction(chance.randint(0, 9), 9)) for _ in game]
            due = sum(fraction(part) * fraction(numbers[x]) for part, x in game[0][1])
            self.assertEqual(mean_at(game, 0, numbers), as_number(due))


def are_numbers(game, values):
    worths = {"finish": [1], "lose": [0]}
    return len(values) == len(game) and all(
        0 <= value <= 1 and value in worths.get(row[0], [value]) for row, value in zip(game, values)
    )


def is_strategy(game, side, strategy):
    return len(strategy) == len(game) and strategy in strategies(game, side)


def ahead_of(game, place, values, strategy):
    """The numbers that point 44 or 45 compares with that of the place."""
    if game[place][0] == "draw":
        return [sum(fraction(chance) * values[x] for chance, x in game[place][1])]
    ahead = [values[x] for x in targets(game, place)]
    return ahead if strategy[place] is None else [ahead[strategy[place]]]


def upper_by_definition(game, numbers, theirs):
    values = fractions(numbers)
    if not are_numbers(game, values) or not is_strategy(game, "theirs", theirs):
        return False
    return all(value >= other for place, value in enumerate(values) for other in ahead_of(game, place, values, theirs))


def lower_by_definition(game, numbers, ours, ranks):
    values = fractions(numbers)
    if not are_numbers(game, values) or not is_strategy(game, "ours", ours) or len(ranks) != len(game):
        return False
    if any(value > other for place, value in enumerate(values) for other in ahead_of(game, place, values, ours)):
        return False
    for place, rank in enumerate(ranks):
        if (rank is None) != (values[place] == 0):
            return False
        if rank is not None and (rank < 0 or (rank == 0) != (game[place][0] == "finish")):
            return False
    return all(goes_down(game, place, ours, ranks) for place in range(len(game)) if ranks[place])


def goes_down(game, place, ours, ranks):
    ahead = targets(game, place)
    if game[place][0] == "ours":
        ahead = [ahead[ours[place]]]
    lesser = [ranks[x] is not None and ranks[x] < ranks[place] for x in ahead]
    return any(lesser) if game[place][0] == "draw" else all(lesser)


class IsUpper(unittest.TestCase):
    game = [("draw", [(HALF, 1), (HALF, 2)]), ("reward", (1, 1), 3), ("ours", [3, 4]), ("theirs", [5, 4]),
            ("draw", [(HALF, 5), (HALF, 6)]), ("finish",), ("lose",)]
    numbers = [(1, 2)] * 5 + [(1, 1), (0, 1)]

    def upper(self, branch=1, **changed):
        numbers = [changed.get(f"at{place}", number) for place, number in enumerate(self.numbers)]
        return is_upper(self.game, numbers, theirs=only(self.game, at3=branch))

    def test_upper_ones(self):
        self.assertIs(self.upper(), True)
        self.assertIs(self.upper(0, at0=(1, 1), at1=(1, 1), at2=(1, 1), at3=(1, 1)), True)
        self.assertIs(self.upper(at4=(3, 4), at3=(3, 4), at2=(3, 4), at1=(7, 8), at0=(13, 16)), True)
        self.assertIs(self.upper(at0=(1, 1), at1=(1, 1), at2=(1, 1), at3=(1, 1), at4=(1, 1)), True)

    def test_a_number_that_is_too_small(self):
        for place in range(5):
            with self.subTest(place=place):
                self.assertIs(self.upper(**{f"at{place}": (499, 1000)}), False)
                self.assertIs(self.upper(**{f"at{place}": (10 ** 50 - 1, 2 * 10 ** 50)}), False)

    def test_the_told_target_alone_counts(self):
        self.assertIs(self.upper(0), False)
        self.assertIs(is_upper([("theirs", [1, 2]), ("finish",), ("lose",)], [(0, 1), (1, 1), (0, 1)],
                               theirs=[1, None, None]), True)
        self.assertIs(is_upper([("theirs", [1, 2]), ("finish",), ("lose",)], [(0, 1), (1, 1), (0, 1)],
                               theirs=[0, None, None]), False)

    def test_every_target_of_ours_counts(self):
        for row in (("ours", [1, 0]), ("ours", [0, 1]), ("ours", [2, 1, 2])):
            game = [row, ("finish",), ("lose",)]
            self.assertIs(is_upper(game, [(99, 100), (1, 1), (0, 1)], theirs=[None] * 3), False)
            self.assertIs(is_upper(game, [(1, 1), (1, 1), (0, 1)], theirs=[None] * 3), True)

    def test_numbers_of_the_game(self):
        for place, number in [(5, (9, 10)), (5, (0, 1)), (6, (1, 10)), (6, (1, 1)), (0, (11, 10)), (0, (-1, 2)),
                              (4, (2, 1)), (0, (10 ** 40, 1)), (5, (2, 1)), (6, (-1, 1))]:
            with self.subTest(place=place, number=number):
                self.assertIs(self.upper(**{f"at{place}": number}), False)
        for row in (("ours", [0]), ("theirs", [0]), ("draw", [((1, 1), 0)]), ("reward", (1, 1), 0)):
            strategy = [0 if row[0] == "theirs" else None]
            for number, due in [((0, 1), True), ((1, 1), True), ((1, 3), True), ((-1, 3), False), ((4, 3), False)]:
                self.assertIs(is_upper([row], [number], theirs=strategy), due)

    def test_other_lengths(self):
        right = only(self.game, at3=1)
        for numbers in ([], self.numbers[:-1], self.numbers[1:], self.numbers + [(0, 1)], self.numbers * 2):
            self.assertIs(is_upper(self.game, numbers, theirs=right), False)
        for theirs in ([], right[:-1], right[1:], right + [None], right * 2):
            self.assertIs(is_upper(self.game, self.numbers, theirs=theirs), False)

    def test_lists_that_are_no_strategy_of_theirs(self):
        for theirs in (only(self.game), only(self.game, at3=2), only(self.game, at3=-1), only(self.game, at3=1, at2=0),
                       only(self.game, at3=1, at0=0), only(self.game, at2=1), only(self.game, at3=1, at6=0)):
            self.assertIs(is_upper(self.game, self.numbers, theirs=theirs), False)

    def test_the_least_game_and_a_long_one(self):
        self.assertIs(is_upper([("finish",)], [(1, 1)], theirs=[None]), True)
        self.assertIs(is_upper([("lose",)], [(0, 1)], theirs=[None]), True)
        self.assertIs(is_upper(WAY, [(1, 1)] * 29 + [(0, 1)], theirs=[None] * 30), True)
        self.assertIs(is_upper(WAY, [(99, 100)] + [(1, 1)] * 28 + [(0, 1)], theirs=[None] * 30), False)

    def test_by_the_definition_and_no_chance_is_greater(self):
        chance = random.Random("upper")
        seen = {True: 0, False: 0}
        for game in busy_games("upper", 300, 6):
            theirs = chance.choice(strategies(game, "theirs"))
            greatest = greatest_by_trying(game, theirs)
            for _ in range(4):
                told = [min(Fraction(1), max(value, Fraction(chance.randint(0, 5), 5))) for value in greatest]
                told = [0 if row[0] == "lose" else value for row, value in zip(game, told)]
                if chance.random() < 0.3:
                    told[chance.randrange(len(game))] = Fraction(chance.randint(-1, 4), 3)
                due = upper_by_definition(game, as_numbers(told), theirs)
                self.assertIs(is_upper(game, as_numbers(told), theirs=theirs), due)
                seen[due] += 1
                if due:
                    self.assertTrue(all(value <= bound for value, bound in zip(greatest, told)))
        self.assertGreater(min(seen.values()), 200)


class IsLower(unittest.TestCase):
    game = [("draw", [(HALF, 1), (HALF, 2)]), ("reward", (1, 1), 3), ("theirs", [3, 4]), ("ours", [6, 4]),
            ("draw", [(HALF, 5), (HALF, 6)]), ("finish",), ("lose",)]
    numbers = [(1, 2)] * 5 + [(1, 1), (0, 1)]
    ranks = [4, 3, 3, 2, 1, 0, None]

    def lower(self, branch=1, ranks=None, **changed):
        numbers = [changed.get(f"at{place}", number) for place, number in enumerate(self.numbers)]
        return is_lower(self.game, numbers, ours=only(self.game, at3=branch), ranks=ranks or self.ranks)

    def test_lower_ones(self):
        self.assertIs(self.lower(), True)
        self.assertIs(self.lower(at0=(1, 3), at2=(1, 5)), True)
        self.assertIs(self.lower(at4=(1, 4), at3=(1, 4), at2=(1, 4), at1=(1, 8), at0=(3, 16)), True)
        self.assertIs(self.lower(0, [None] * 4 + [1, 0, None], at0=(0, 1), at1=(0, 1), at2=(0, 1), at3=(0, 1)), True)
        self.assertIs(self.lower(0, [None] * 5 + [0, None], **{f"at{place}": (0, 1) for place in range(5)}), True)

    def test_a_number_that_is_too_great(self):
        for place in range(5):
            with self.subTest(place=place):
                self.assertIs(self.lower(**{f"at{place}": (501, 1000)}), False)
                self.assertIs(self.lower(**{f"at{place}": (10 ** 50 + 1, 2 * 10 ** 50)}), False)

    def test_the_told_target_alone_counts(self):
        self.assertIs(self.lower(0), False)
        game = [("ours", [1, 2]), ("finish",), ("lose",)]
        told = [(1, 1), (1, 1), (0, 1)]
        self.assertIs(is_lower(game, told, ours=[0, None, None], ranks=[1, 0, None]), True)
        self.assertIs(is_lower(game, told, ours=[1, None, None], ranks=[1, 0, None]), False)

    def test_every_target_of_theirs_counts(self):
        for row in (("theirs", [1, 2]), ("theirs", [2, 1]), ("theirs", [1, 2, 1])):
            game = [row, ("finish",), ("draw", [(HALF, 1), (HALF, 2)])]
            told = [(1, 1), (1, 1), (3, 4)]
            self.assertIs(is_lower(game, told, ours=[None] * 3, ranks=[2, 0, 1]), False)
            told = [(3, 4), (1, 1), (3, 4)]
            self.assertIs(is_lower(game, told, ours=[None] * 3, ranks=[2, 0, 1]), True)

    def test_numbers_of_the_game(self):
        for place, number in [(5, (9, 10)), (5, (0, 1)), (6, (-1, 10)), (0, (-1, 2)), (4, (-1, 1)),
                              (5, (-10 ** 40, 1)), (6, (1, 2)), (5, (2, 1))]:
            with self.subTest(place=place, number=number):
                self.assertIs(self.lower(**{f"at{place}": number}), False)
                ranks = list(self.ranks)
                ranks[place] = None
                self.assertIs(self.lower(1, ranks, **{f"at{place}": number}), False)
        self.assertIs(is_lower([("ours", [0])], [(-1, 2)], ours=[0], ranks=[1]), False)
        self.assertIs(is_lower([("lose",)], [(1, 1)], ours=[None], ranks=[0]), False)
        self.assertIs(is_lower([("finish",)], [(0, 1)], ours=[None], ranks=[None]), False)

    def test_rings_need_ranks(self):
        game = [("ours", [1, 2]), ("ours", [0, 3]), ("finish",), ("lose",)]
        told = [(1, 1), (1, 1), (1, 1), (0, 1)]
        for ranks in ([1, 1, 0, None], [1, 2, 0, None], [2, 1, 0, None], [None, None, 0, None], [0, 0, 0, None]):
            self.assertIs(is_lower(game, told, ours=[0, 0, None, None], ranks=ranks), False)
        self.assertIs(is_lower(game, told, ours=[1, 0, None, None], ranks=[1, 2, 0, None]), True)
        self.assertIs(is_lower(game, told, ours=[1, 0, None, None], ranks=[3, 7, 0, None]), True)
        self.assertIs(is_lower(game, told, ours=[1, 0, None, None], ranks=[2, 2, 0, None]), False)
        self.assertIs(is_lower(game, told, ours=[1, 0, None, None], ranks=[2, 1, 0, None]), False)

    def test_the_ranks_of_one_place(self):
        for place, wrong in [(0, 3), (0, 0), (0, None), (0, -1), (1, 2), (1, 0), (1, None), (2, 2), (2, 1), (2, None),
                             (3, 1), (3, 0), (3, None), (4, 0), (4, None), (4, -1), (5, 1), (5, -1), (5, None),
                             (6, 0), (6, 5), (6, -1)]:
            with self.subTest(place=place, rank=wrong):
                ranks = list(self.ranks)
                ranks[place] = wrong
                self.assertIs(self.lower(1, ranks), False)
        for place, right in [(0, 5), (0, 99), (0, 10 ** 9)]:
            ranks = list(self.ranks)
            ranks[place] = right
            self.assertIs(self.lower(1, ranks), True)

    def test_some_target_of_a_draw_and_every_target_of_theirs(self):
        self.assertIs(self.lower(1, [4, 3, 5, 2, 1, 0, None]), True)
        self.assertIs(self.lower(1, [4, 5, 3, 2, 1, 0, None]), True)
        self.assertIs(self.lower(1, [3, 3, 3, 2, 1, 0, None]), False)
        game = [("theirs", [1, 2]), ("reward", (0, 1), 3), ("reward", (0, 1), 1), ("finish",)]
        for ranks, due in [([3, 1, 2, 0], True), ([2, 1, 2, 0], False), ([2, 1, 1, 0], False), ([1, 1, 2, 0], False)]:
            self.assertIs(is_lower(game, [(1, 1)] * 4, ours=[None] * 4, ranks=ranks), due)

    def test_a_place_whose_number_is_0_has_no_rank(self):
        game = [("ours", [1, 2]), ("finish",), ("lose",)]
        told = [(0, 1), (1, 1), (0, 1)]
        self.assertIs(is_lower(game, told, ours=[0, None, None], ranks=[None, 0, None]), True)
        self.assertIs(is_lower(game, told, ours=[0, None, None], ranks=[1, 0, None]), False)

    def test_other_lengths(self):
        right = only(self.game, at3=1)
        for numbers in ([], self.numbers[:-1], self.numbers[1:], self.numbers + [(0, 1)], self.numbers * 2):
            self.assertIs(is_lower(self.game, numbers, ours=right, ranks=self.ranks), False)
        for ours in ([], right[:-1], right[1:], right + [None], right * 2):
            self.assertIs(is_lower(self.game, self.numbers, ours=ours, ranks=self.ranks), False)
        for ranks in ([], self.ranks[:-1], self.ranks[1:], self.ranks + [None], self.ranks * 2):
            self.assertIs(is_lower(self.game, self.numbers, ours=right, ranks=ranks), False)

    def test_lists_that_are_no_strategy_of_ours(self):
        for ours in (only(self.game), only(self.game, at3=2), only(self.game, at3=-1), only(self.game, at3=1, at2=0),
                     only(self.game, at3=1, at0=0), only(self.game, at2=1), only(self.game, at3=1, at6=0)):
            self.assertIs(is_lower(self.game, self.numbers, ours=ours, ranks=self.ranks), False)

    def test_the_least_game_and_a_long_one(self):
        self.assertIs(is_lower([("finish",)], [(1, 1)], ours=[None], ranks=[0]), True)
        self.assertIs(is_lower([("lose",)], [(0, 1)], ours=[None], ranks=[None]), True)
        ranks = list(range(28, -1, -1)) + [None]
        self.assertIs(is_lower(WAY, [(1, 1)] * 29 + [(0, 1)], ours=[None] * 30, ranks=ranks), True)
        self.assertIs(is_lower(WAY, [(1, 1)] * 28 + [(99, 100), (0, 1)], ours=[None] * 30, ranks=ranks), False)

    def test_by_the_definition_and_no_least_chance_is_less(self):
        chance = random.Random("lower")
        seen = {True: 0, False: 0}
        for game in busy_games("lower", 300, 6):
            ours = chance.choice(strategies(game, "ours"))
            least = least_by_trying(game, ours)
            for _ in range(4):
                part = Fraction(chance.randint(1, 3), 3)
                told = [value if row[0] == "finish" else part * value for row, value in zip(game, least)]
                ranks = least_ranks(game, as_numbers(told), ours=ours)
                if chance.random() < 0.3:
                    told[chance.randrange(len(game))] = Fraction(chance.randint(0, 3), 3)
                if chance.random() < 0.3:
                    ranks[chance.randrange(len(game))] = chance.choice((None, 0, 1, 2, -1))
                due = lower_by_definition(game, as_numbers(told), ours, ranks)
                self.assertIs(is_lower(game, as_numbers(told), ours=ours, ranks=ranks), due)
                seen[due] += 1
                if due:
                    self.assertTrue(all(value >= bound for value, bound in zip(least, told)))
        self.assertGreater(min(seen.values()), 200)


def ranks_by_definition(game, numbers, ours):
    """The rounds of point 46, each with all ranks of the rounds before."""
    rounds = [{place: 0 for place in places_of(game, "finish")}]
    while True:
        earlier = rounds[-1]
        given = dict(earlier)
        for place in range(len(game)):
            ahead = targets(game, place)
            if game[place][0] == "ours":
                ahead = [ahead[ours[place]]]
            ranked = [x in earlier for x in ahead]
            due = any(ranked) if game[place][0] == "draw" else bool(ranked) and all(ranked)
            if due and place not in earlier and numbers[place] != (0, 1):
                given[place] = len(rounds)
        if given == earlier:
            break
        rounds.append(given)
    if any(place not in earlier and numbers[place] != (0, 1) for place in range(len(game))):
        return None
    return [earlier.get(place) for place in range(len(game))]


class LeastRanks(unittest.TestCase):
    def test_round_by_round(self):
        told = [(1, 2)] * 5 + [(1, 1), (0, 1)]
        self.assertEqual(least_ranks(IsLower.game, told, ours=only(IsLower.game, at3=1)), [4, 3, 3, 2, 1, 0, None])
        self.assertEqual(least_ranks(WAY, [(1, 1)] * 29 + [(0, 1)], ours=[None] * 30), list(range(28, -1, -1)) + [None])

    def test_the_first_target_of_a_draw_and_the_last_one_of_theirs(self):
        ends = [("finish",), ("reward", (0, 1), 0), ("reward", (0, 1), 1)]
        for row, rank in [
            (("draw", [(HALF, 2), (HALF, 0)]), 1), (("draw", [(HALF, 2), (HALF, 1)]), 2), (("theirs", [0, 2]), 3),
            (("theirs", [0, 1]), 2), (("theirs", [0]), 1), (("ours", [2, 0]), 3), (("reward", (1, 1), 1), 2),
            (("draw", [(HALF, 3), (HALF, 0)]), 1), (("draw", [((1, 1), 2)]), 3),
        ]:
            ours = [None, None, None, 0 if row[0] == "ours" else None]
            self.assertEqual(least_ranks(ends + [row], [(1, 1)] * 4, ours=ours), [0, 1, 2, rank])

    def test_the_told_branch(self):
        game = [("ours", [1, 2]), ("draw", [(HALF, 2), (HALF, 0)]), ("finish",)]
        told = [(1, 1)] * 3
        self.assertEqual(least_ranks(game, told, ours=[0, None, None]), [2, 1, 0])
        self.assertEqual(least_ranks(game, told, ours=[1, None, None]), [1, 1, 0])

    def test_none_where_the_number_is_0(self):
        game = [("ours", [2]), ("ours", [0, 2]), ("finish",)]
        self.assertEqual(least_ranks(game, [(0, 1), (1, 1), (1, 1)], ours=[0, 1, None]), [None, 1, 0])
        self.assertEqual(least_ranks(game, [(0, 1), (0, 1), (1, 1)], ours=[0, 0, None]), [None, None, 0])
        self.assertEqual(least_ranks([("lose",)], [(0, 1)], ours=[None]), [None])
        self.assertEqual(least_ranks([("theirs", [0])], [(0, 1)], ours=[None]), [None])

    def test_no_right_ranks(self):
        ring = [("ours", [1]), ("ours", [0]), ("finish",)]
        self.assertIsNone(least_ranks(ring, [(1, 1)] * 3, ours=[0, 0, None]))
        self.assertIsNone(least_ranks(ring, [(1, 9), (0, 1), (1, 1)], ours=[0, 0, None]))
        for row in (("theirs", [1, 0]), ("theirs", [1, 2]), ("draw", [(HALF, 0), (HALF, 2)]), ("reward", (0, 1), 2),
                    ("reward", (1, 1), 0), ("draw", [((1, 1), 0)])):
            self.assertIsNone(least_ranks([row, ("finish",), ("lose",)], [HALF, (1, 1), (0, 1)], ours=[None] * 3))
        # The target has a rank in no round, as its number is 0.
        self.assertIsNone(least_ranks([("ours", [1]), ("ours", [2]), ("finish",)], [HALF, (0, 1), (1, 1)],
                                      ours=[0, 0, None]))

    def test_games_without_a_finish(self):
        self.assertIsNone(least_ranks([("ours", [0])], [(1, 1)], ours=[0]))
        self.assertEqual(least_ranks([("ours", [0])], [(0, 1)], ours=[0]), [None])

    def test_by_the_definition(self):
        chance = random.Random("ranks")
        found = {True: 0, False: 0}
        for game in random_games("ranks", 200) + busy_games("ranks", 300):
            ours = [chance.randrange(len(row[1])) if row[0] == "ours" else None for row in game]
            free = {"finish": (1, 1), "lose": (0, 1)}
            told = [free.get(row[0], chance.choice([(0, 1), (1, 2), (1, 1)])) for row in game]
            if chance.random() < 0.6:
                told = least_against(game, ours)[0]
            due = ranks_by_definition(game, told, ours)
            self.assertEqual(least_ranks(game, told, ours=ours), due)
            found[due is None] += 1
        self.assertGreater(min(found.values()), 100)


class LeastAgainst(unittest.TestCase):
    def test_the_example_of_the_interface(self):
        self.assertEqual(least_against(EXAMPLE, [1, None, None, None, None]),
                         ([(1, 2), (0, 1), (1, 2), (1, 1), (0, 1)], [None, 1, None, None, None]))
        self.assertEqual(least_against(EXAMPLE, [0, None, None, None, None]),
                         ([(0, 1), (0, 1), (1, 2), (1, 1), (0, 1)], [None, 1, None, None, None]))

    def test_rings_of_the_others(self):
        numbers, theirs = least_against(RINGS, only(RINGS, at0=0, at1=1))
        self.assertEqual(numbers, [HALF, HALF, HALF, HALF, (0, 1), (0, 1), (1, 1), (0, 1)])
        self.assertEqual(theirs, only(RINGS, at4=1, at5=0))
        self.assertEqual(least_against([("theirs", [1, 0]), ("finish",)], [None, None]), ([(0, 1), (1, 1)], [1, None]))
        # To go on to the finish is no better than to stay, if only the next places are compared.
        game = [("theirs", [2, 1]), ("draw", [(HALF, 0), (HALF, 1)]), ("finish",)]
        self.assertEqual(least_against(game, [None] * 3), ([(0, 1), (0, 1), (1, 1)], [1, None, None]))

    def test_rings_of_ours(self):
        numbers, _ = least_against(RINGS, only(RINGS, at0=0, at1=0))
        self.assertEqual(numbers[:2], [(0, 1), (0, 1)])
        self.assertEqual(least_against([("ours", [0])], [0]), ([(0, 1)], [None]))

    def test_the_least_of_six_branches(self):
        game = [("theirs", [1, 2, 3, 2, 4, 1]), ("finish",)]
        game += [("draw", [((part, 7), 1), ((7 - part, 7), 5)]) for part in (3, 2, 4)] + [("lose",)]
        numbers, theirs = least_against(game, [None] * 6)
        self.assertEqual((numbers[0], theirs[0]), ((2, 7), 2))

    def test_games_of_one_place_and_of_thirty(self):
        for row, number in [(("finish",), (1, 1)), (("lose",), (0, 1)), (("reward", (1, 1), 0), (0, 1))]:
            self.assertEqual(least_against([row], [None]), ([number], [None]))
        game = [("theirs", [place + 1, place]) for place in range(29)] + [("finish",)]
        numbers, theirs = least_against(game, [None] * 30)
        self.assertEqual(numbers, [(0, 1)] * 29 + [(1, 1)])
        self.assertEqual(theirs[28:], [1, None])
        self.assertEqual(least_against(WAY, [None] * 30), ([(1, 1)] * 29 + [(0, 1)], [None] * 30))

    def test_all_strategies_of_the_others(self):
        chance = random.Random("least")
        for game in random_games("least", 100) + busy_games("least", 300):
            ours = chance.choice(strategies(game, "ours"))
            numbers, theirs = least_against(game, ours)
            self.assertTrue(all(is_number(number) for number in numbers))
            self.assertEqual(fractions(numbers), least_by_trying(game, ours))
            check_strategy(game, "theirs", theirs)
            self.assertEqual(finishing(game, ours, theirs), fractions(numbers))


class GreatestAgainst(unittest.TestCase):
    def test_all_strategies_of_ours(self):
        chance = random.Random("greatest")
        for game in random_games("greatest", 100) + busy_games("greatest", 300):
            theirs = chance.choice(strategies(game, "theirs"))
            numbers, ours = greatest_against(game, theirs)
            self.assertTrue(all(is_number(number) for number in numbers))
            self.assertEqual(fractions(numbers), greatest_by_trying(game, theirs))
            check_strategy(game, "ours", ours)
            self.assertEqual(finishing(game, ours, theirs), fractions(numbers))

    def test_the_strategy_of_theirs(self):
        self.assertEqual(greatest_against(EXAMPLE, only(EXAMPLE, at1=0)),
                         ([(1, 1), (1, 1), HALF, (1, 1), (0, 1)], only(EXAMPLE, at0=0)))
        self.assertEqual(greatest_against(EXAMPLE, only(EXAMPLE, at1=1)),
                         ([HALF, (0, 1), HALF, (1, 1), (0, 1)], only(EXAMPLE, at0=1)))

    def test_rings(self):
        numbers, ours = greatest_against(RINGS, only(RINGS, at4=1, at5=0))
        self.assertEqual(numbers, [HALF, HALF, HALF, HALF, (0, 1), (0, 1), (1, 1), (0, 1)])
        self.assertIn(ours[:2], ([0, 1], [1, 0], [1, 1]))
        self.assertEqual(greatest_against([("ours", [0, 1]), ("finish",)], [None] * 2), ([(1, 1)] * 2, [1, None]))
        self.assertEqual(greatest_against([("theirs", [0, 1]), ("finish",)], [0, None]), ([(0, 1), (1, 1)], [None] * 2))

    def test_games_of_one_place_and_of_thirty(self):
        for row, number in [(("finish",), (1, 1)), (("lose",), (0, 1)), (("draw", [((1, 1), 0)]), (0, 1))]:
            self.assertEqual(greatest_against([row], [None]), ([number], [None]))
        game = [("ours", [place, place + 1]) for place in range(29)] + [("finish",)]
        self.assertEqual(greatest_against(game, [None] * 30), ([(1, 1)] * 30, [1] * 29 + [None]))


class Improved(unittest.TestCase):
    def test_the_first_branch_with_the_greatest_number(self):
        game = [("ours", [3, 1, 2, 1, 2, 3]), ("reward", (0, 1), 4), ("draw", [((1, 1), 4)]), ("lose",), ("finish",)]
        for numbers, branch in [([1, 2, 2, 0, 3], 1), ([3, 1, 2, 0, 3], 2), ([0, 2, 1, 0, 3], 1)]:
            told = [(part, 3) if 0 < part < 3 else (part // 3, 1) for part in numbers]
            for first in (0, 5):
                self.assertEqual(improved(game, [first] + [None] * 4, told), [branch] + [None] * 4)

    def test_the_told_branch_stays_if_no_number_is_greater(self):
        game = [("ours", [1, 2, 1]), ("ours", [0, 2]), ("ours", [2, 0, 1]), ("finish",)]
        told = [(1, 3)] * 3 + [(1, 1)]
        for ours in ([2, 1, 2, None], [0, 0, 0, None], [1, 1, 1, None]):
            self.assertEqual(improved(game, ours, told), ours)
        self.assertEqual(improved(game, [2, 1, 2, None], [(1, 2), (1, 3), (1, 4), (1, 1)]), [2, 0, 1, None])
        self.assertEqual(improved(game, [1, 1, 2, None], [(1, 4), (1, 3), (1, 2), (1, 1)]), [1, 1, 0, None])

    def test_the_answer_is_another_list(self):
        ours = [0, None]
        changed = improved([("ours", [1]), ("finish",)], ours, [(1, 1), (1, 1)])
        self.assertEqual(changed, ours)
        self.assertIsNot(changed, ours)

    def test_other_places_stay(self):
        game = [("theirs", [2, 1]), ("finish",), ("lose",), ("draw", [(HALF, 1), (HALF, 2)])]
        self.assertEqual(improved(game, [None] * 4, [(0, 1), (1, 1), (0, 1), HALF]), [None] * 4)

    def test_long_numbers(self):
        game = [("ours", [1, 2]), ("ours", [3]), ("ours", [4]), ("finish",), ("lose",)]
        told = [(0, 1), (10 ** 60 - 1, 10 ** 60), (10 ** 60 - 2, 10 ** 60 - 1), (1, 1), (0, 1)]
        self.assertEqual(improved(game, [1, 0, 0, None, None], told), [0, 0, 0, None, None])
        self.assertEqual(improved(game, [0, 0, 0, None, None], told), [0, 0, 0, None, None])

    def test_least_chances_become_greater(self):
        chance = random.Random("improved")
        changes = 0
        for game in busy_games("improved", 400, 12):
            ours = [chance.randrange(len(row[1])) if row[0] == "ours" else None for row in game]
            least, _ = least_against(game, ours)
            better = improved(game, ours, least)
            later, _ = least_against(game, better)
            for place, (old, new) in enumerate(zip(fractions(least), fractions(later))):
                changed = better[place] != ours[place]
                changes += changed
                self.assertTrue(new > old if changed else new >= old)
            if better == ours and len(game) < 6:
                self.assertEqual(fractions(least), values_by_trying(game))
        self.assertGreater(changes, 100)


if __name__ == "__main__":
    unittest.main()
