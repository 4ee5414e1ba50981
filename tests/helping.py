"""What several files of tests use."""

import copy
import random
from fractions import Fraction
from itertools import product

from oddkeep.chains import chances
from oddkeep.games import places_of, with_strategy

HALF = (1, 2)
KINDS = ("draw", "ours", "theirs", "reward", "finish", "lose")
CHAIN_KINDS = ("draw", "reward", "finish", "lose")

EVERY_KIND = [
    ("draw", [((1, 2), 1), ((1, 3), 2), ((1, 6), 0)]),
    ("ours", [2, 0, 2]),
    ("theirs", [3, 4]),
    ("reward", (7, 2), 5),
    ("finish",),
    ("lose",),
]


def spoiled(value):
    """Change everything in the answer that can be changed."""
    if isinstance(value, (list, tuple)):
        for part in value:
            spoiled(part)
    if isinstance(value, list):
        value.append("spoiled")


class ArgumentsStay:
    """No function changes its arguments, and what it returns is new.

    CALLS are tuples of a function, its arguments by position, and those by name.
    """

    CALLS = []

    def test_arguments_stay_as_they_were(self):
        for function, arguments, named in copies(self.CALLS):
            with self.subTest(function=function.__name__):
                before = copy.deepcopy((arguments, named))
                function(*arguments, **named)
                self.assertEqual((arguments, named), before)

    def test_a_changed_answer_changes_nothing_later(self):
        for function, arguments, named in copies(self.CALLS):
            with self.subTest(function=function.__name__):
                before = copy.deepcopy((arguments, named))
                first = function(*arguments, **named)
                kept = copy.deepcopy(first)
                spoiled(first)
                self.assertEqual((arguments, named), before)
                self.assertEqual(function(*arguments, **named), kept)

    def test_changed_arguments_change_no_earlier_answer(self):
        for function, arguments, named in copies(self.CALLS):
            with self.subTest(function=function.__name__):
                answer = function(*arguments, **named)
                kept = copy.deepcopy(answer)
                spoiled(arguments)
                spoiled(list(named.values()))
                self.assertEqual(answer, kept)

    def test_no_list_stands_twice_in_an_answer(self):
        for function, arguments, named in copies(self.CALLS):
            with self.subTest(function=function.__name__):
                lists = lists_in(function(*arguments, **named))
                self.assertEqual(len({id(part) for part in lists}), len(lists))


def copies(calls):
    """The calls, with arguments that no two of them share."""
    return [copy.deepcopy(call) for call in calls]


def lists_in(value):
    """All lists in the value, itself and those in its parts."""
    found = [value] if isinstance(value, list) else []
    if isinstance(value, (list, tuple)):
        for part in value:
            found += lists_in(part)
    return found


def fraction(number):
    return Fraction(number[0], number[1])


def fractions(numbers):
    return [fraction(number) for number in numbers]


def as_number(value):
    value = Fraction(value)
    return (value.numerator, value.denominator)


def as_numbers(values):
    return [as_number(value) for value in values]


def random_place(chance, many, kinds, most):
    """A place of one of the kinds in a game of so many places, with branches up to the most."""
    kind = chance.choice(kinds)
    ways = [chance.randrange(many) for _ in range(chance.randint(1, most))]
    if kind == "draw":
        weights = [chance.randint(1, 5) for _ in ways]
        return (kind, [(as_number(Fraction(weight, sum(weights))), x) for weight, x in zip(weights, ways)])
    if kind in ("ours", "theirs"):
        return (kind, ways)
    if kind == "reward":
        return (kind, as_number(Fraction(chance.choice((0, 0, 1, 3)), chance.randint(1, 4))), ways[0])
    return (kind,)


def random_games(seed, count, most_places=7, kinds=KINDS, most_branches=3):
    """So many games, always the same ones for the same arguments."""
    chance = random.Random(seed)
    games = []
    for _ in range(count):
        many = chance.randint(1, most_places)
        games.append([random_place(chance, many, kinds, most_branches) for _ in range(many)])
    return games


def random_chains(seed, count, most_places=7):
    return random_games(seed, count, most_places, CHAIN_KINDS)


def busy_games(seed, count, most_places=7, kinds=("draw", "draw", "ours", "ours", "theirs", "reward")):
    """Games that go on at all places but the last two, which are the ends."""
    chance = random.Random(seed)
    games = []
    for _ in range(count):
        many = chance.randint(3, most_places)
        games.append([random_place(chance, many, kinds, 3) for _ in range(many - 2)] + [("finish",), ("lose",)])
    return games


def moves_of(chain, place):
    """The chances of one step from the place, for each place to which it can lead."""
    row = chain[place]
    if row[0] == "draw":
        found = {}
        for chance, x in row[1]:
            found[x] = found.get(x, 0) + fraction(chance)
        return found
    if row[0] == "reward":
        return {row[2]: Fraction(1)}
    return {}


def strategies(game, side):
    """All strategies of the side."""
    choices = [range(len(row[1])) if row[0] == side else [None] for row in game]
    return [list(told) for told in product(*choices)]


def both_put_in(game, ours, theirs):
    return with_strategy(with_strategy(game, "ours", ours), "theirs", theirs)


def finishing(game, ours, theirs):
    """The chance of the two strategies at each place."""
    chain = both_put_in(game, ours, theirs)
    return fractions(chances(chain, places_of(chain, "finish")))


def least_by_trying(game, ours):
    """The least chances of the strategy of ours, found by trying all strategies of theirs."""
    return [min(column) for column in zip(*[finishing(game, ours, theirs) for theirs in strategies(game, "theirs")])]


def greatest_by_trying(game, theirs):
    """The greatest chances of the strategy of theirs, found by trying all strategies of ours."""
    return [max(column) for column in zip(*[finishing(game, ours, theirs) for ours in strategies(game, "ours")])]


def values_by_trying(game):
    """The values of all places, found by trying all strategies of both sides."""
    return [max(column) for column in zip(*[least_by_trying(game, ours) for ours in strategies(game, "ours")])]
