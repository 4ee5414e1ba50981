"""Points 48 to 52: values, right answers, improvements, greedy and best strategies, gaps."""

import random
import unittest
from fractions import Fraction

from oddkeep.deciding import greatest_against, improved, is_lower, is_upper, least_against
from oddkeep.duels import answer_of, check_answer, gap, greedy, improvements, is_best, values
from oddkeep.games import check_strategy, exchanged, places_of, targets
from oddkeep.masses import values_of_steps
from oddkeep.numbers import compare, is_number
from oddkeep.sure import almost_sure
from tests.helping import (
    EVERY_KIND, HALF, ArgumentsStay, as_number, as_numbers, busy_games, finishing, fractions, greatest_by_trying,
    least_by_trying, random_games, strategies, values_by_trying,
)

EXAMPLE = [("ours", [1, 2]), ("theirs", [3, 4]), ("draw", [(HALF, 3), (HALF, 4)]), ("finish",), ("lose",)]
RIGHT = ([(1, 2), (0, 1), (1, 2), (1, 1), (0, 1)], [1, None, None, None, None], [None, 1, None, None, None],
         [2, None, 1, 0, None])
# Both sides can go round for ever: we between 0 and 1, the others between 2 and 3, both between 4 and 5.
RINGS = [
    ("ours", [1, 6]),
    ("ours", [0, 7]),
    ("theirs", [3, 6]),
    ("theirs", [2, 8]),
    ("ours", [5, 7]),
    ("theirs", [4, 6]),
    ("draw", [((2, 3), 8), ((1, 3), 9)]),
    ("draw", [((1, 6), 8), ((1, 6), 9), ((1, 6), 8), ((1, 6), 9), ((1, 6), 7), ((1, 6), 8)]),
    ("finish",),
    ("lose",),
]
RING_VALUES = [(2, 3), (2, 3), (0, 1), (0, 1), (3, 5), (3, 5), (2, 3), (3, 5), (1, 1), (0, 1)]
NO_FINISH = [("ours", [1, 0]), ("theirs", [0, 2]), ("lose",), ("draw", [(HALF, 0), (HALF, 3)])]


# Each of the first 27 places becomes better only when the one behind it has become better.
LONG_WAY = [("ours", [27, place + 1]) for place in range(26)]
LONG_WAY += [("ours", [27, 28]), ("draw", [(HALF, 28), (HALF, 29)]), ("finish",), ("lose",)]


class Arguments(ArgumentsStay, unittest.TestCase):
    CALLS = [
        (call, [game], {}) for call in (values, answer_of) for game in (EXAMPLE, RINGS, NO_FINISH, EVERY_KIND)
    ] + [
        (check_answer, [EXAMPLE, RIGHT], {}),
        (improvements, [EXAMPLE, [0, None, None, None, None]], {}),
        (improvements, [EXAMPLE, [1, None, None, None, None]], {}),
        (improvements, [RINGS, [0, 0, None, None, 0] + [None] * 5], {}),
        (greedy, [RINGS, RING_VALUES], {"side": "ours"}),
        (greedy, [RINGS, RING_VALUES], {"side": "theirs"}),
        (is_best, [EXAMPLE, [1, None, None, None, None]], {"side": "ours"}),
        (is_best, [EXAMPLE, [None, 1, None, None, None]], {"side": "theirs"}),
        (gap, [EXAMPLE], {"ours": [0, None, None, None, None], "theirs": [None, 0, None, None, None]}),
    ]


class Values(unittest.TestCase):
    def test_the_example(self):
        self.assertEqual(values(EXAMPLE), [(1, 2), (0, 1), (1, 2), (1, 1), (0, 1)])

    def test_rings(self):
        self.assertEqual(values(RINGS), RING_VALUES)
        self.assertEqual(values(exchanged(RINGS)), [
            (0, 1), (0, 1), (1, 1), (1, 1), (3, 5), (2, 3), (2, 3), (3, 5), (1, 1), (0, 1),
        ])

    def test_games_without_a_finish(self):
        self.assertEqual(values(NO_FINISH), [(0, 1)] * 4)
        self.assertEqual(values([("lose",)] * 30), [(0, 1)] * 30)

    def test_games_of_one_place(self):
        for row, number in [(("finish",), (1, 1)), (("lose",), (0, 1)), (("ours", [0] * 6), (0, 1)),
                            (("theirs", [0]), (0, 1)), (("draw", [((1, 1), 0)]), (0, 1)),
                            (("reward", (1, 1), 0), (0, 1))]:
            self.assertEqual(values([row]), [number])

    def test_games_of_thirty_places(self):
        self.assertEqual(values([("theirs", [place + 1]) for place in range(29)] + [("finish",)]), [(1, 1)] * 30)
        walk = [("lose",)]
        walk += [("ours", [place - 1, place + 1]) if place % 2 else ("draw", [((2, 3), place + 1), ((1, 3), place - 1)])
                 for place in range(1, 29)]
        walk += [("finish",)]
        # Between two draws we always go up, so that the play can not come back to the place that loses.
        self.assertEqual(values(walk)[1:], [(1, 1)] * 29)

    def test_amounts_do_not_count(self):
        self.assertEqual(values([("reward", (999, 1), 1), ("draw", [(HALF, 2), (HALF, 3)]), ("finish",), ("lose",)]),
                         [HALF, HALF, (1, 1), (0, 1)])

    def test_all_strategies_of_both_sides(self):
        for game in random_games("duels", 100, 6) + busy_games("duels", 300, 6):
            numbers = values(game)
            self.assertTrue(all(is_number(number) for number in numbers))
            self.assertEqual(fractions(numbers), values_by_trying(game))
            greatest = [greatest_by_trying(game, theirs) for theirs in strategies(game, "theirs")]
            self.assertEqual(fractions(numbers), [min(column) for column in zip(*greatest)])
            # Some strategy of each side is best at all places at once.
            self.assertIn(fractions(numbers), greatest)
            self.assertIn(fractions(numbers), [least_by_trying(game, ours) for ours in strategies(game, "ours")])

    def test_no_number_of_steps_secures_more(self):
        for game in busy_games("secured", 50, 8):
            for some, whole in zip(fractions(values_of_steps(game, steps=40)), fractions(values(game))):
                self.assertLessEqual(some, whole)


class AnswerOf(unittest.TestCase):
    def test_the_example_of_the_interface(self):
        self.assertEqual(answer_of(EXAMPLE), RIGHT)

    def test_edges(self):
        self.assertEqual(answer_of([("finish",)]), ([(1, 1)], [None], [None], [0]))
        self.assertEqual(answer_of([("lose",)]), ([(0, 1)], [None], [None], [None]))
        self.assertEqual(answer_of([("ours", [0])]), ([(0, 1)], [0], [None], [None]))
        for game in (RINGS, NO_FINISH, EVERY_KIND, LONG_WAY, [("lose",)] * 30, exchanged(RINGS)):
            self.assert_right(game)

    def assert_right(self, game):
        answer = answer_of(game)
        self.assertIsInstance(answer, tuple)
        numbers, ours, theirs, ranks = answer
        check_strategy(game, "ours", ours)
        check_strategy(game, "theirs", theirs)
        self.assertEqual(numbers, values(game))
        self.assertIs(is_upper(game, numbers, theirs=theirs), True)
        self.assertIs(is_lower(game, numbers, ours=ours, ranks=ranks), True)
        self.assertIs(check_answer(game, answer), True)

    def test_many_games(self):
        for game in random_games("answers", 200) + busy_games("answers", 200, 9):
            self.assert_right(game)
            _, ours, theirs, _ = answer_of(game)
            self.assertIs(is_best(game, ours, side="ours"), True)
            self.assertIs(is_best(game, theirs, side="theirs"), True)


class CheckAnswer(unittest.TestCase):
    def test_right_ones(self):
        self.assertIs(check_answer(EXAMPLE, RIGHT), True)
        self.assertIs(check_answer(EXAMPLE, (*RIGHT[:3], [9, None, 8, 0, None])), True)

    def test_wrong_ones(self):
        for at, wrong in [
            (0, [(1, 3), (0, 1), (1, 2), (1, 1), (0, 1)]), (0, [(2, 3), (0, 1), (1, 2), (1, 1), (0, 1)]),
            (0, [(1, 2), (1, 9), (1, 2), (1, 1), (0, 1)]), (0, [(1, 2), (0, 1), (1, 3), (1, 1), (0, 1)]),
            (0, [(1, 2), (0, 1), (1, 2), (0, 1), (0, 1)]), (0, [(1, 2), (0, 1), (1, 2), (1, 1), (1, 1)]),
            (1, [0, None, None, None, None]), (1, [2, None, None, None, None]), (1, [None] * 5),
            (2, [None, 0, None, None, None]), (2, [None, 2, None, None, None]), (2, [None] * 5),
            (3, [1, None, 1, 0, None]), (3, [2, None, 1, 1, None]), (3, [2, 3, 1, 0, None]), (3, [None] * 5),
            (3, [2, None, 1, 0, 0]), (3, [2, None, 0, 0, None]), (3, [0, None, -1, -2, None]),
        ]:
            with self.subTest(at=at, wrong=wrong):
                self.assertIs(check_answer(EXAMPLE, (*RIGHT[:at], wrong, *RIGHT[at + 1:])), False)

    def test_other_lengths(self):
        for at in range(4):
            for wrong in ([], RIGHT[at][:-1], RIGHT[at][1:], RIGHT[at] + [None if at else (0, 1)], RIGHT[at] * 2):
                self.assertIs(check_answer(EXAMPLE, (*RIGHT[:at], wrong, *RIGHT[at + 1:])), False)

    def test_a_ring_of_places_with_the_same_number(self):
        game = [("ours", [1, 2]), ("ours", [0, 2]), ("finish",)]
        told = [(1, 1)] * 3
        self.assertIs(check_answer(game, (told, [0, 0, None], [None] * 3, [1, 1, 0])), False)
        self.assertIs(check_answer(game, (told, [0, 0, None], [None] * 3, [1, 2, 0])), False)
        self.assertIs(check_answer(game, (told, [0, 1, None], [None] * 3, [2, 1, 0])), True)
        self.assertIs(check_answer(game, (told, [1, 1, None], [None] * 3, [1, 1, 0])), True)

    def test_right_numbers_are_the_values(self):
        chance = random.Random("right")
        for game in busy_games("right", 150, 6):
            numbers, ours, theirs, ranks = answer_of(game)
            other = list(numbers)
            other[chance.randrange(len(game))] = as_number(Fraction(chance.randint(0, 12), 12))
            self.assertIs(check_answer(game, (other, ours, theirs, ranks)), other == numbers)
            one = chance.choice(strategies(game, "ours"))
            two = chance.choice(strategies(game, "theirs"))
            if check_answer(game, (numbers, one, two, ranks)):
                self.assertTrue(is_best(game, one, side="ours") and is_best(game, two, side="theirs"))


class Improvements(unittest.TestCase):
    def test_the_example(self):
        self.assertEqual(improvements(EXAMPLE, [0, None, None, None, None]), [
            ([0, None, None, None, None], [(0, 1), (0, 1), (1, 2), (1, 1), (0, 1)]),
            ([1, None, None, None, None], [(1, 2), (0, 1), (1, 2), (1, 1), (0, 1)]),
        ])
        self.assertEqual(improvements(EXAMPLE, RIGHT[1]), [(RIGHT[1], RIGHT[0])])

    def test_one_after_another(self):
        told = improvements(LONG_WAY, [0] * 27 + [None] * 3)
        self.assertEqual(len(told), 28)
        for better, (ours, numbers) in enumerate(told):
            self.assertEqual(ours, [0] * (27 - better) + [1] * better + [None] * 3)
            self.assertEqual(numbers, [HALF] * (27 - better) + [(1, 1)] * better + [HALF, (1, 1), (0, 1)])

    def test_games_without_places_of_ours(self):
        game = [("theirs", [1, 2]), ("finish",), ("lose",)]
        self.assertEqual(improvements(game, [None] * 3), [([None] * 3, [(0, 1), (1, 1), (0, 1)])])
        self.assertEqual(improvements([("finish",)], [None]), [([None], [(1, 1)])])

    def test_a_ring_that_we_leave(self):
        game = [("ours", [0, 1]), ("ours", [0, 2]), ("finish",)]
        self.assertEqual(improvements(game, [0, 0, None]), [
            ([0, 0, None], [(0, 1), (0, 1), (1, 1)]), ([0, 1, None], [(0, 1), (1, 1), (1, 1)]),
            ([1, 1, None], [(1, 1), (1, 1), (1, 1)]),
        ])

    def test_from_every_strategy(self):
        chance = random.Random("every")
        longest = 0
        for game in busy_games("every", 200, 8, ("draw", "ours", "ours", "theirs")):
            ours = [chance.randrange(len(row[1])) if row[0] == "ours" else None for row in game]
            told = improvements(game, ours)
            longest = max(longest, len(told))
            self.assertEqual(told[0][0], ours)
            self.assertEqual(told[-1][1], values(game))
            for at, (strategy, numbers) in enumerate(told):
                self.assertEqual(numbers, least_against(game, strategy)[0])
                later = told[min(at + 1, len(told) - 1)][0]
                self.assertEqual(improved(game, strategy, numbers), later)
                self.assertNotIn(strategy, [other for other, _ in told[:at]])
                if at > 0:
                    steps = [compare(new, old) for new, old in zip(numbers, told[at - 1][1])]
                    self.assertEqual((min(steps) >= 0, max(steps)), (True, 1))
        self.assertGreater(longest, 2)


class Greedy(unittest.TestCase):
    def test_the_first_of_the_best(self):
        game = [("ours", [2, 3, 1, 3]), ("theirs", [3, 2, 4, 2]), ("draw", [((1, 1), 3)]), ("finish",), ("lose",)]
        told = [(1, 9), (1, 2), (1, 3), (1, 1), (0, 1)]
        self.assertEqual(greedy(game, told, side="ours"), [1, None, None, None, None])
        self.assertEqual(greedy(game, told, side="theirs"), [None, 2, None, None, None])
        told = [(1, 9), (1, 2), (1, 3), (1, 3), (1, 3)]
        self.assertEqual(greedy(game, told, side="ours"), [2, None, None, None, None])
        self.assertEqual(greedy(game, told, side="theirs"), [None, 0, None, None, None])

    def test_long_numbers(self):
        game = [("ours", [2, 3]), ("theirs", [3, 2]), ("lose",), ("lose",)]
        told = [(0, 1), (0, 1), (10 ** 50 - 1, 10 ** 50), (10 ** 50, 10 ** 50 + 1)]
        self.assertEqual(greedy(game, told, side="ours"), [1, None, None, None])
        self.assertEqual(greedy(game, told, side="theirs"), [None, 1, None, None])

    def test_by_the_definition(self):
        chance = random.Random("greedy")
        for game in random_games("greedy", 300, most_branches=6):
            told = [Fraction(chance.randint(0, 3), 3) for _ in game]
            for side, best in (("ours", max), ("theirs", min)):
                due = [None] * len(game)
                for place in places_of(game, side):
                    ahead = [told[x] for x in targets(game, place)]
                    due[place] = ahead.index(best(ahead))
                self.assertEqual(greedy(game, as_numbers(told), side=side), due)

    def test_that_of_theirs_by_the_values_is_best(self):
        for game in random_games("best", 200) + busy_games("best", 200, 8) + [RINGS, exchanged(RINGS), NO_FINISH]:
            theirs = greedy(game, values(game), side="theirs")
            self.assertEqual(greatest_against(game, theirs)[0], values(game))

    def test_that_of_ours_need_not_be(self):
        game = [("ours", [0, 1]), ("finish",)]
        ours = greedy(game, values(game), side="ours")
        self.assertEqual(ours, [0, None])
        self.assertIs(is_best(game, ours, side="ours"), False)


class IsBest(unittest.TestCase):
    def test_the_example(self):
        for branch in (0, 1):
            self.assertIs(is_best(EXAMPLE, [branch] + [None] * 4, side="ours"), branch == 1)
            self.assertIs(is_best(EXAMPLE, [None, branch, None, None, None], side="theirs"), branch == 1)

    def test_rings(self):
        for first, second, due in [(0, 0, False), (0, 1, False), (1, 0, True), (1, 1, False)]:
            ours = [first, second, None, None, 1] + [None] * 5
            self.assertIs(is_best(RINGS, ours, side="ours"), due)
        self.assertIs(is_best(RINGS, [1, 0, None, None, 0] + [None] * 5, side="ours"), False)
        for first, second, due in [(0, 0, True), (0, 1, False), (1, 0, False), (1, 1, False)]:
            theirs = [None, None, first, second, None, 0] + [None] * 4
            self.assertIs(is_best(RINGS, theirs, side="theirs"), due)
        self.assertIs(is_best(RINGS, [None, None, 0, 0, None, 1] + [None] * 4, side="theirs"), False)

    def test_whatever_is_chosen_without_a_finish(self):
        for ours in strategies(NO_FINISH, "ours"):
            self.assertIs(is_best(NO_FINISH, ours, side="ours"), True)
        for theirs in strategies(NO_FINISH, "theirs"):
            self.assertIs(is_best(NO_FINISH, theirs, side="theirs"), True)
        self.assertIs(is_best([("finish",)], [None], side="ours"), True)
        self.assertIs(is_best([("finish",)], [None], side="theirs"), True)

    def test_all_strategies(self):
        seen = {True: 0, False: 0}
        for game in busy_games("all", 100, 6):
            due = values_by_trying(game)
            for ours in strategies(game, "ours"):
                right = least_by_trying(game, ours) == due
                seen[right] += 1
                self.assertIs(is_best(game, ours, side="ours"), right)
            for theirs in strategies(game, "theirs"):
                right = greatest_by_trying(game, theirs) == due
                seen[right] += 1
                self.assertIs(is_best(game, theirs, side="theirs"), right)
        self.assertGreater(min(seen.values()), 50)


class Gap(unittest.TestCase):
    def test_the_example(self):
        self.assertEqual(gap(EXAMPLE, ours=RIGHT[1], theirs=RIGHT[2]), [(0, 1)] * 5)
        worst = {"ours": [0, None, None, None, None], "theirs": [None, 0, None, None, None]}
        self.assertEqual(gap(EXAMPLE, **worst), [(1, 1), (1, 1), (0, 1), (0, 1), (0, 1)])
        self.assertEqual(gap(EXAMPLE, ours=[0, None, None, None, None], theirs=RIGHT[2]), [HALF] + [(0, 1)] * 4)
        self.assertEqual(gap(EXAMPLE, ours=RIGHT[1], theirs=worst["theirs"]), [HALF, (1, 1)] + [(0, 1)] * 3)

    def test_the_least_game(self):
        self.assertEqual(gap([("finish",)], ours=[None], theirs=[None]), [(0, 1)])
        self.assertEqual(gap([("theirs", [0])], ours=[None], theirs=[0]), [(0, 1)])

    def test_two_strategies_are_best_exactly_if_there_is_none(self):
        seen = {True: 0, False: 0}
        chance = random.Random("gaps")
        for game in busy_games("gaps", 200, 6):
            ours = chance.choice(strategies(game, "ours") + [answer_of(game)[1]])
            theirs = chance.choice(strategies(game, "theirs"))
            told = fractions(gap(game, ours=ours, theirs=theirs))
            greatest, least = greatest_by_trying(game, theirs), least_by_trying(game, ours)
            self.assertEqual(told, [most - some for most, some in zip(greatest, least)])
            self.assertGreaterEqual(min(told), 0)
            for some, number, most in zip(least, fractions(values(game)), greatest):
                self.assertTrue(some <= number <= most)
            best = is_best(game, ours, side="ours") and is_best(game, theirs, side="theirs")
            self.assertIs(not any(told), best)
            seen[best] += 1
        self.assertGreater(min(seen.values()), 20)


class Together(unittest.TestCase):
    def test_best_strategies_bring_the_values(self):
        for game in busy_games("together", 100, 9):
            numbers, ours, theirs, _ = answer_of(game)
            self.assertEqual(finishing(game, ours, theirs), fractions(numbers))

    def test_almost_sure_strategies_are_best_where_they_are(self):
        for game in busy_games("almost", 200):
            places, ours, _ = almost_sure(game)
            least, _ = least_against(game, ours)
            self.assertEqual([least[place] for place in places], [(1, 1)] * len(places))


if __name__ == "__main__":
    unittest.main()
