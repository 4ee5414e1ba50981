"""Points 76 to 81: games that are put together or turned about, games that always end."""

import random
import unittest
from fractions import Fraction
from itertools import combinations

from oddkeep.building import always_ends, choice_between, mixture, one_after, turned_about
from oddkeep.chains import closed_classes
from oddkeep.duels import values
from oddkeep.errors import BadSize
from oddkeep.games import check_game, exchanged, targets
from tests.helping import (
    EVERY_KIND, HALF, ArgumentsStay, as_number, both_put_in, busy_games, fraction, random_games, strategies,
)

ODDS = [("draw", [((2, 3), 1), ((1, 3), 2)]), ("finish",), ("lose",)]
TRIES = [("ours", [1, 2]), ("draw", [((1, 4), 3), ((3, 4), 0)]), ("theirs", [3, 4]), ("finish",), ("lose",)]
TWO_ENDS = [("draw", [(HALF, 1), ((1, 4), 2), ((1, 4), 0)]), ("finish",), ("finish",)]


class Arguments(ArgumentsStay, unittest.TestCase):
    CALLS = [
        (one_after, [ODDS, EVERY_KIND], {}),
        (one_after, [EVERY_KIND, TRIES], {}),
        (choice_between, [[ODDS, EVERY_KIND, TRIES]], {"side": "ours"}),
        (choice_between, [[EVERY_KIND]], {"side": "theirs"}),
        (mixture, [[(HALF, ODDS), (HALF, EVERY_KIND)]], {}),
        (turned_about, [EVERY_KIND], {}),
        (always_ends, [EVERY_KIND], {}),
        (always_ends, [ODDS], {}),
    ]


def value(game):
    """The value of the game at its place 0."""
    return fraction(values(game)[0])


def moved(game, by):
    """The game, moved up."""
    rows = []
    for row in game:
        if row[0] == "draw":
            rows.append((row[0], [(chance, x + by) for chance, x in row[1]]))
        elif row[0] in ("ours", "theirs"):
            rows.append((row[0], [x + by for x in row[1]]))
        elif row[0] == "reward":
            rows.append((row[0], row[1], row[2] + by))
        else:
            rows.append(row)
    return rows


def some_of(chance, games):
    """One to six of the games, which have at most 29 places together."""
    some = [chance.choice(games) for _ in range(chance.randint(1, 6))]
    while sum(len(game) for game in some) > 29:
        some.pop()
    return some


class OneAfter(unittest.TestCase):
    def test_each_finish_leads_to_the_second_game(self):
        self.assertEqual(one_after(TWO_ENDS, ODDS), [
            ("draw", [(HALF, 1), ((1, 4), 2), ((1, 4), 0)]), ("draw", [((1, 1), 3)]), ("draw", [((1, 1), 3)]),
            ("draw", [((2, 3), 4), ((1, 3), 5)]), ("finish",), ("lose",),
        ])

    def test_every_kind_is_moved_up(self):
        self.assertEqual(one_after(ODDS, EVERY_KIND), [
            ("draw", [((2, 3), 1), ((1, 3), 2)]), ("draw", [((1, 1), 3)]), ("lose",),
            ("draw", [(HALF, 4), ((1, 3), 5), ((1, 6), 3)]), ("ours", [5, 3, 5]), ("theirs", [6, 7]),
            ("reward", (7, 2), 8), ("finish",), ("lose",),
        ])
        first = one_after(EVERY_KIND, ODDS)[:6]
        self.assertEqual(first, EVERY_KIND[:4] + [("draw", [((1, 1), 6)]), ("lose",)])

    def test_least_games(self):
        self.assertEqual(one_after([("finish",)], [("lose",)]), [("draw", [((1, 1), 1)]), ("lose",)])
        self.assertEqual(one_after([("lose",)], [("finish",)]), [("lose",), ("finish",)])
        self.assertEqual(one_after([("ours", [0])], [("ours", [0])]), [("ours", [0]), ("ours", [1])])

    def test_thirty_places_and_one_more(self):
        for first, second in [(15, 15), (1, 29), (29, 1), (27, 3)]:
            self.assertEqual(one_after([("lose",)] * first, [("lose",)] * second), [("lose",)] * 30)
        for first, second in [(15, 16), (16, 15), (1, 30), (30, 1), (30, 30)]:
            with self.assertRaises(BadSize):
                one_after([("lose",)] * first, [("lose",)] * second)

    def test_a_game_after_itself(self):
        self.assertEqual(one_after(ODDS, ODDS), ODDS[:1] + [("draw", [((1, 1), 3)]), ("lose",)] + moved(ODDS, 3))

    def test_the_value_is_the_product(self):
        games = random_games("first", 40, 5) + busy_games("first", 60, 7) + [ODDS, TRIES, TWO_ENDS]
        for first, second in zip(games, games[::-1]):
            whole = one_after(first, second)
            check_game(whole)
            self.assertEqual(value(whole), value(first) * value(second))


class ChoiceBetween(unittest.TestCase):
    def test_a_place_before_the_games(self):
        for side in ("ours", "theirs"):
            self.assertEqual(choice_between([ODDS, EVERY_KIND, [("finish",)]], side=side),
                             [(side, [1, 4, 10])] + moved(ODDS, 1) + moved(EVERY_KIND, 4) + [("finish",)])

    def test_one_game_and_six(self):
        self.assertEqual(choice_between([[("lose",)]], side="ours"), [("ours", [1]), ("lose",)])
        self.assertEqual(choice_between([[("finish",)]] * 6, side="theirs"),
                         [("theirs", [1, 2, 3, 4, 5, 6])] + [("finish",)] * 6)
        self.assertEqual(choice_between([[("ours", [0])]] * 3, side="theirs"),
                         [("theirs", [1, 2, 3]), ("ours", [1]), ("ours", [2]), ("ours", [3])])

    def test_thirty_places_and_one_more(self):
        for sizes in ([29], [14, 15], [4, 5, 5, 5, 5, 5], [1, 28]):
            games = [[("lose",)] * size for size in sizes]
            self.assertEqual(len(choice_between(games, side="ours")), 30)
            for at in range(len(sizes)):
                more = games[:at] + [games[at] + [("lose",)]] + games[at + 1:]
                for side in ("ours", "theirs"):
                    with self.assertRaises(BadSize):
                        choice_between(more, side=side)

    def test_the_value_is_the_greatest_or_the_least_one(self):
        chance = random.Random("choice")
        games = random_games("choice", 60, 4) + busy_games("choice", 60, 5)
        for _ in range(60):
            some = some_of(chance, games)
            for side, best in (("ours", max), ("theirs", min)):
                whole = choice_between(some, side=side)
                check_game(whole)
                self.assertEqual(value(whole), best(value(game) for game in some))


class Mixture(unittest.TestCase):
    def test_a_draw_before_the_games(self):
        parts = [((1, 2), ODDS), ((1, 3), EVERY_KIND), ((1, 6), [("finish",)])]
        self.assertEqual(mixture(parts), [("draw", [((1, 2), 1), ((1, 3), 4), ((1, 6), 10)])]
                         + moved(ODDS, 1) + moved(EVERY_KIND, 4) + [("finish",)])

    def test_one_part_and_six(self):
        self.assertEqual(mixture([((1, 1), ODDS)]), [("draw", [((1, 1), 1)])] + moved(ODDS, 1))
        self.assertEqual(mixture([((1, 6), [("lose",)])] * 6),
                         [("draw", [((1, 6), place) for place in range(1, 7)])] + [("lose",)] * 6)

    def test_thirty_places_and_one_more(self):
        for sizes in ([29], [14, 15], [4, 5, 5, 5, 5, 5]):
            parts = [((1, len(sizes)), [("lose",)] * size) for size in sizes]
            self.assertEqual(len(mixture(parts)), 30)
            for at, (chance, game) in enumerate(parts):
                with self.assertRaises(BadSize):
                    mixture(parts[:at] + [(chance, game + [("lose",)])] + parts[at + 1:])

    def test_the_value_is_the_mean(self):
        chance = random.Random("mixture")
        games = random_games("mixture", 60, 4) + busy_games("mixture", 60, 5)
        for _ in range(60):
            some = some_of(chance, games)
            weights = [chance.randint(1, 9) for _ in some]
            chances = [Fraction(weight, sum(weights)) for weight in weights]
            whole = mixture([(as_number(part), game) for part, game in zip(chances, some)])
            check_game(whole)
            self.assertEqual(value(whole), sum(part * value(game) for part, game in zip(chances, some)))


class TurnedAbout(unittest.TestCase):
    def test_sides_and_ends(self):
        self.assertEqual(turned_about(EVERY_KIND), [
            ("draw", [((1, 2), 1), ((1, 3), 2), ((1, 6), 0)]), ("theirs", [2, 0, 2]), ("ours", [3, 4]),
            ("reward", (7, 2), 5), ("lose",), ("finish",),
        ])
        self.assertEqual(turned_about([("finish",), ("finish",)]), [("lose",), ("lose",)])

    def test_twice(self):
        for game in random_games("about", 100):
            self.assertEqual(turned_about(turned_about(game)), game)

    def test_the_value_is_1_less_the_value_if_the_game_always_ends(self):
        ending = 0
        for game in random_games("turned", 300) + busy_games("turned", 200):
            if always_ends(game):
                ending += 1
                self.assertIs(always_ends(turned_about(game)), True)
                for one, other in zip(values(game), values(turned_about(game))):
                    self.assertEqual(fraction(one) + fraction(other), 1)
        self.assertGreater(ending, 100)

    def test_a_game_that_does_not_always_end(self):
        self.assertEqual(values(turned_about([("ours", [0]), ("finish",)])), [(0, 1), (0, 1)])


def ends_by_definition(game):
    """For all choices of both sides: from no place the play comes into a class that it never leaves."""
    for ours in strategies(game, "ours"):
        for theirs in strategies(game, "theirs"):
            chain = both_put_in(game, ours, theirs)
            if any(chain[closed[0]][0] not in ("finish", "lose") for closed in closed_classes(chain)):
                return False
    return True


def is_kept(game, places):
    """Tell whether the play can be kept in the places, as point 81 says."""
    for place in places:
        inside = [x in places for x in targets(game, place)]
        free = game[place][0] in ("ours", "theirs")
        if not inside or not (any(inside) if free else all(inside)):
            return False
    return True


def ends_by_sets(game):
    places = range(len(game))
    return not any(is_kept(game, some) for many in range(1, len(game) + 1) for some in combinations(places, many))


class AlwaysEnds(unittest.TestCase):
    def test_games_that_do(self):
        for game in (ODDS, TWO_ENDS, [("finish",)], [("lose",)] * 30, one_after(ODDS, TWO_ENDS), EVERY_KIND,
                     [("ours", [1, 2]), ("finish",), ("theirs", [1, 3]), ("draw", [(HALF, 0), (HALF, 1)])],
                     [("draw", [((998, 999), 0), ((1, 999), 1)]), ("lose",)],
                     [("reward", (1, 1), place + 1) for place in range(29)] + [("finish",)]):
            self.assertIs(always_ends(game), True)

    def test_games_that_do_not(self):
        for game in ([("ours", [0, 1]), ("finish",)], [("theirs", [1, 0]), ("lose",)], [("reward", (0, 1), 0)],
                     [("draw", [((1, 1), 0)])], [("draw", [(HALF, 0), (HALF, 0)]), ("finish",)],
                     [("finish",), ("ours", [2, 0]), ("theirs", [0, 1])],
                     [("finish",), ("reward", (1, 1), 2), ("draw", [(HALF, 1), (HALF, 2)])],
                     [("reward", (1, 1), (place + 1) % 30) for place in range(30)],
                     [("ours", [1, 2]), ("draw", [(HALF, 2), (HALF, 3)]), ("theirs", [0, 3]), ("lose",)]):
            self.assertIs(always_ends(game), False)

    def test_a_way_out_that_is_drawn(self):
        ring = [("ours", [1]), ("draw", [(HALF, 0), (HALF, 2)]), ("finish",)]
        self.assertIs(always_ends(ring), True)
        self.assertIs(always_ends([("ours", [1, 0])] + ring[1:]), False)
        self.assertIs(always_ends([("theirs", [1, 0])] + ring[1:]), False)

    def test_all_strategies_and_all_sets(self):
        seen = {True: 0, False: 0}
        for game in random_games("ends", 200, 5) + busy_games("ends", 200, 6):
            due = ends_by_definition(game)
            seen[due] += 1
            self.assertIs(always_ends(game), due)
            self.assertIs(ends_by_sets(game), due)
            self.assertIs(always_ends(exchanged(game)), due)
        self.assertGreater(min(seen.values()), 50)


if __name__ == "__main__":
    unittest.main()
