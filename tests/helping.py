"""What several files of tests use."""

import copy
import random
from fractions import Fraction

HALF = (1, 2)
KINDS = ("draw", "ours", "theirs", "reward", "finish", "lose")
CHAIN_KINDS = ("draw", "reward", "finish", "lose")

EVERY_KIND = [
    ("draw", [((1, 2), 1), ((1, 3), 2), ((1, 6), 0)]),
    ("ours", [2, 0, 2]),
    ("theirs", [3, 4]),
    ("reward", (7, 2), 5),
    ("finish",),
    ("lose",),
]


def spoiled(value):
    """Change everything in the answer that can be changed."""
    if isinstance(value, (list, tuple)):
        for part in value:
            spoiled(part)
    if isinstance(value, list):
        value.append("spoiled")


class ArgumentsStay:
    """No function changes its arguments, and what it returns is new.

    CALLS are tuples of a function, its arguments by position, and those by name.
    """

    CALLS = []

    def test_arguments_stay_as_they_were(self):
        for function, arguments, named in copies(self.CALLS):
            with self.subTest(function=function.__name__):
                before = copy.deepcopy((arguments, named))
                function(*arguments, **named)
                self.assertEqual((arguments, named), before)

    def test_a_changed_answer_changes_nothing_later(self):
        for function, arguments, named in copies(self.CALLS):
            with self.subTest(function=function.__name__):
                before = copy.deepcopy((arguments, named))
                first = function(*arguments, **named)
                kept = copy.deepcopy(first)
                spoiled(first)
                self.assertEqual((arguments, named), before)
                self.assertEqual(function(*arguments, **named), kept)

    def test_changed_arguments_change_no_earlier_answer(self):
        for function, arguments, named in copies(self.CALLS):
            with self.subTest(function=function.__name__):
                answer = function(*arguments, **named)
                kept = copy.deepcopy(answer)
                spoiled(arguments)
                spoiled(list(named.values()))
                self.assertEqual(answer, kept)

    def test_no_list_stands_twice_in_an_answer(self):
        for function, arguments, named in copies(self.CALLS):
            with self.subTest(function=function.__name__):
                lists = lists_in(function(*arguments, **named))
                self.assertEqual(len({id(part) for part in lists}), len(lists))


def copies(calls):
    """The calls, with arguments that no two of them share."""
    return [copy.deepcopy(call) for call in calls]


def lists_in(value):
    """All lists in the value, itself and those in its parts."""
    found = [value] if isinstance(value, list) else []
    if isinstance(value, (list, tuple)):
        for part in value:
            found += lists_in(part)
    return found


def fraction(number):
    return Fraction(number[0], number[1])


def fractions(numbers):
    return [fraction(number) for number in numbers]


def as_number(value):
    value = Fraction(value)
    return (value.numerator, value.denominator)


def as_numbers(values):
    return [as_number(value) for value in values]


def random_place(chance, many, kinds, most):
    """A place of one of the kinds in a game of so many places, with branches up to the most."""
    kind = chance.choice(kinds)
    ways = [chance.randrange(many) for _ in range(chance.randint(1, most))]
    if kind == "draw":
        weights = [chance.randint(1, 5) for _ in ways]
        return (kind, [(as_number(Fraction(weight, sum(weights))), x) for weight, x in zip(weights, ways)])
    if kind in ("ours", "theirs"):
        return (kind, ways)
    if kind == "reward":
        return (kind, as_number(Fraction(chance.choice((0, 0, 1, 3)), chance.randint(1, 4))), ways[0])
    return (kind,)


def random_games(seed, count, most_places=7, kinds=KINDS, most_branches=3):
    """So many games, always the same ones for the same arguments."""
    chance = random.Random(seed)
    games = []
    for _ in range(count):
        many = chance.randint(1, most_places)
        games.append([random_place(chance, many, kinds, most_branches) for _ in range(many)])
    return games


def random_chains(seed, count, most_places=7):
    return random_games(seed, count, most_places, CHAIN_KINDS)


def moves_of(chain, place):
    """The chances of one step from the place, for each place to which it can lead."""
    row = chain[place]
    if row[0] == "draw":
        found = {}
        for chance, x in row[1]:
            found[x] = found.get(x, 0) + fraction(chance)
        return found
    if row[0] == "reward":
        return {row[2]: Fraction(1)}
    return {}
