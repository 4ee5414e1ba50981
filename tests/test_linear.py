"""Points 31 to 35: systems of equations, answers for them, and rows that follow."""

import random
import unittest
from fractions import Fraction

from oddkeep.errors import BadNumber, BadSize, OddsError
from oddkeep.linear import (
    check_equations, follows, is_direction, is_solution, judge_equations, refutes, solve_equations,
)
from oddkeep.numbers import is_number
from tests.helping import ArgumentsStay, as_number, as_numbers, fraction, fractions


def numbers(*values):
    return [as_number(value) for value in values]


def row(*values):
    """A row: the factors and, as the last one, the bound."""
    return (numbers(*values[:-1]), as_number(values[-1]))


ONE_SOLUTION = [row(1, 1, 3), row(1, -1, 1)]
MANY_SOLUTIONS = [row(1, 1, 3), row(2, 2, 6)]
NO_SOLUTION = [row(1, 1, 3), row(2, 2, 5)]
NO_SHORT_NUMBERS = [(2, 4), (1000, 1), (1, 1000), (-1000, 1), (1, 0), (1, -1), (True, 1), (1,), 1, None, "1", [1, 1]]


class Arguments(ArgumentsStay, unittest.TestCase):
    CALLS = [
        (check_equations, [2, ONE_SOLUTION], {}),
        (is_solution, [2, ONE_SOLUTION, numbers(2, 1)], {}),
        (is_direction, [2, MANY_SOLUTIONS, numbers(1, -1)], {}),
        (refutes, [2, NO_SOLUTION, numbers(2, -1)], {}),
        (solve_equations, [2, ONE_SOLUTION], {}),
        (solve_equations, [2, MANY_SOLUTIONS], {}),
        (solve_equations, [2, NO_SOLUTION], {}),
        (solve_equations, [3, []], {}),
        (judge_equations, [2, ONE_SOLUTION, ("one", numbers(2, 1))], {}),
        (judge_equations, [2, MANY_SOLUTIONS, ("many", numbers(3, 0), numbers(1, -1))], {}),
        (judge_equations, [2, NO_SOLUTION, ("none", numbers(2, -1))], {}),
        (follows, [2, ONE_SOLUTION, row(3, 1, 7)], {}),
        (follows, [2, MANY_SOLUTIONS, row(3, 1, 7)], {}),
        (follows, [2, [], row(0, 0, 0)], {}),
    ]


def rank(rows):
    """The number of the rows that are no sums of multiples of earlier ones."""
    rest = [list(values) for values in rows]
    found = 0
    while rest:
        first = rest.pop()
        at = next((at for at, value in enumerate(first) if value != 0), None)
        if at is not None:
            found += 1
            rest = [[a - b * values[at] / first[at] for a, b in zip(values, first)] for values in rest]
    return found


def kind_of_system(rows, count):
    factors = [fractions(factors) for factors, _ in rows]
    whole = [fractions(factors) + [fraction(bound)] for factors, bound in rows]
    if rank(whole) > rank(factors):
        return "none"
    return "one" if rank(factors) == count else "many"


def random_number(chance, most=4):
    return as_number(Fraction(chance.randint(-most, most), chance.choice((1, 1, 1, 2, 3))))


def random_systems(seed, count):
    """Systems of each kind, of 1 to 8 variables and 0 to 12 rows."""
    chance = random.Random(seed)
    for _ in range(count):
        variables = chance.randint(1, 8)
        rows = []
        for _ in range(chance.choice((0, 1, 2, variables, variables, 12, chance.randint(0, 12)))):
            if rows and chance.random() < 0.4:
                rows.append(sum_of_two(chance, rows, chance.random() < 0.2))
            else:
                factors = [random_number(chance) if chance.random() < 0.6 else (0, 1) for _ in range(variables)]
                rows.append((factors, random_number(chance)))
        yield variables, rows


def sum_of_two(chance, rows, spoil):
    one, other = chance.choice(rows), chance.choice(rows)
    factors = [fraction(a) - fraction(b) for a, b in zip(one[0], other[0])]
    return (as_numbers(factors), as_number(fraction(one[1]) - fraction(other[1]) + spoil))


def added_up(count, rows, multipliers):
    factors = [sum(fraction(m) * fraction(r[0][at]) for m, r in zip(multipliers, rows)) for at in range(count)]
    return factors, sum(fraction(m) * fraction(r[1]) for m, r in zip(multipliers, rows))


def fulfills(rows, values, bounds):
    sums = [sum(fraction(f) * fraction(v) for f, v in zip(factors, values)) for factors, _ in rows]
    return sums == bounds


class Checks(unittest.TestCase):
    def assert_error(self, kind, count, rows):
        with self.subTest(count=count, rows=rows):
            with self.assertRaises(OddsError) as caught:
                check_equations(count, rows)
            self.assertIs(caught.exception.__class__, kind)

    def test_good_ones(self):
        for count in range(1, 9):
            for many in range(13):
                good = ([(999, 998)] * count, (-998, 999))
                self.assertIsNone(check_equations(count, [good] * many))

    def test_the_number_of_variables(self):
        for count in (0, 9, -1, 10 ** 30, True, False, None, "1"):
            self.assert_error(BadSize, count, [])
        self.assert_error(BadSize, 9, [row(*[1] * 10)])
        self.assert_error(BadSize, 0, [([], (1, 1))])
        self.assert_error(BadSize, True, [row(1, 1)])

    def test_the_number_of_rows(self):
        self.assertIsNone(check_equations(1, [row(1, 1)] * 12))
        self.assert_error(BadSize, 1, [row(1, 1)] * 13)
        self.assert_error(BadSize, 8, [row(*[0] * 9)] * 13)

    def test_the_number_of_factors(self):
        for count in (1, 2, 8):
            for many in (0, count - 1, count + 1, 2 * count):
                bad = ([(1, 1)] * many, (1, 1))
                good = ([(1, 1)] * count, (1, 1))
                self.assert_error(BadSize, count, [bad])
                self.assert_error(BadSize, count, [good] * 11 + [bad])

    def test_numbers_that_are_not_short(self):
        for bad in NO_SHORT_NUMBERS:
            self.assert_error(BadNumber, 1, [([bad], (1, 1))])
            self.assert_error(BadNumber, 1, [([(1, 1)], bad)])
            self.assert_error(BadNumber, 3, [row(1, 2, 3, 4), ([(1, 1), (0, 1), bad], (1, 1))])
            self.assert_error(BadNumber, 3, [row(1, 2, 3, 4), row(1, 2, 3, 4), ([(1, 1)] * 3, bad)])

    def test_numbers_at_the_bound(self):
        for good in ((999, 1), (-999, 1), (1, 999), (-998, 999), (0, 1)):
            self.assertIsNone(check_equations(2, [([good, good], good)]))

    def test_which_error_is_due_first(self):
        self.assert_error(BadSize, 9, [([(2, 4)], (1, 1))])
        self.assert_error(BadSize, 0, [([(2, 4)], (2, 4))])
        self.assert_error(BadSize, 1, [([(2, 4)], (1, 1))] * 13)
        self.assert_error(BadSize, 1, [([(2, 4), (1, 1)], (2, 4))])
        self.assert_error(BadSize, 2, [([(1, 1)], (1, 1)), ([(2, 4), (1, 1)], (1, 1))])
        self.assert_error(BadNumber, 2, [([(1, 1), (2, 4)], (1, 1)), ([(1, 1)], (1, 1))])
        self.assert_error(BadNumber, 2, [([(1, 1), (1, 1)], (2, 4)), ([(1, 1)], (1, 1))])


class Solutions(unittest.TestCase):
    def test_solutions(self):
        self.assertIs(is_solution(2, ONE_SOLUTION, numbers(2, 1)), True)
        self.assertIs(is_solution(2, ONE_SOLUTION, numbers(1, 2)), False)
        self.assertIs(is_solution(2, ONE_SOLUTION, numbers(0, 3)), False)
        self.assertIs(is_solution(2, MANY_SOLUTIONS, numbers(Fraction(7, 2), Fraction(-1, 2))), True)
        self.assertIs(is_solution(2, NO_SOLUTION, numbers(3, 0)), False)

    def test_each_row_counts(self):
        rows = [row(1, 0, 0, 1), row(0, 1, 0, 2), row(0, 0, 1, 3)]
        self.assertIs(is_solution(3, rows, numbers(1, 2, 3)), True)
        for wrong in ((0, 2, 3), (1, 0, 3), (1, 2, 0)):
            self.assertIs(is_solution(3, rows, numbers(*wrong)), False)

    def test_other_lengths(self):
        for values in ([], numbers(2), numbers(2, 1, 0), numbers(2, 1, 2, 1)):
            self.assertIs(is_solution(2, ONE_SOLUTION, values), False)
            self.assertIs(is_solution(2, [], values), False)
        self.assertIs(is_solution(2, [row(0, 0, 0)], []), False)

    def test_no_rows(self):
        self.assertIs(is_solution(3, [], numbers(1, -5, 0)), True)

    def test_long_numbers(self):
        long = (10 ** 50 + 1, 10 ** 50)
        self.assertIs(is_solution(2, [row(1, -1, 0)], [long, long]), True)
        self.assertIs(is_solution(1, [row(1, 1)], [long]), False)


class Directions(unittest.TestCase):
    def test_directions(self):
        for values, due in (((1, -1), True), ((-5, 5), True), ((0, 0), False), ((1, 1), False), ((0, 1), False)):
            self.assertIs(is_direction(2, MANY_SOLUTIONS, numbers(*values)), due)
            self.assertIs(is_direction(2, NO_SOLUTION, numbers(*values)), due)
        self.assertIs(is_direction(2, ONE_SOLUTION, numbers(1, -1)), False)
        self.assertIs(is_direction(2, ONE_SOLUTION, numbers(1, 1)), False)

    def test_no_rows(self):
        self.assertIs(is_direction(2, [], numbers(0, 7)), True)
        self.assertIs(is_direction(2, [], numbers(0, 0)), False)

    def test_other_lengths(self):
        for values in ([], numbers(1), numbers(1, -1, 0), numbers(0, 0, 0), numbers(1, -1, 1, -1)):
            self.assertIs(is_direction(2, MANY_SOLUTIONS, values), False)
            self.assertIs(is_direction(2, [], values), False)


class Refuting(unittest.TestCase):
    def test_multipliers(self):
        for values, due in (((2, -1), True), ((-4, 2), True), ((0, 0), False), ((1, 0), False), ((1, -1), False)):
            self.assertIs(refutes(2, NO_SOLUTION, numbers(*values)), due)
        self.assertIs(refutes(2, MANY_SOLUTIONS, numbers(2, -1)), False)
        self.assertIs(refutes(1, [row(0, 5)], numbers(1)), True)
        self.assertIs(refutes(1, [row(0, 0)], numbers(1)), False)

    def test_each_variable_counts(self):
        for at in range(3):
            factors = [0, 0, 0]
            factors[at] = 1
            self.assertIs(refutes(3, [row(*factors, 1)], numbers(1)), False)

    def test_other_lengths(self):
        for values in ([], numbers(2), numbers(2, -1, 0), numbers(2, -1, 2, -1)):
            self.assertIs(refutes(2, NO_SOLUTION, values), False)
        self.assertIs(refutes(2, [], []), False)
        self.assertIs(refutes(2, [], numbers(1)), False)


class Solving(unittest.TestCase):
    def test_the_example_of_the_interface(self):
        self.assertEqual(solve_equations(2, ONE_SOLUTION), ("one", [(2, 1), (1, 1)]))

    def test_kinds(self):
        self.assertEqual(solve_equations(2, MANY_SOLUTIONS)[0], "many")
        self.assertEqual(solve_equations(2, NO_SOLUTION)[0], "none")
        self.assertEqual(solve_equations(1, [row(0, 0)])[0], "many")
        self.assertEqual(solve_equations(1, [row(0, 1)])[0], "none")
        self.assertEqual(solve_equations(1, [row(3, 7)]), ("one", [(7, 3)]))

    def test_no_rows(self):
        for count in range(1, 9):
            answer = solve_equations(count, [])
            self.assertEqual(answer[0], "many")
            self.assert_right(count, [], answer)

    def test_twelve_rows(self):
        one = [row(*[int(at == k % 8) for at in range(8)], k % 8) for k in range(12)]
        self.assertEqual(solve_equations(8, one), ("one", numbers(*range(8))))
        self.assertEqual(solve_equations(8, one[:11] + [row(*[1] * 8, 29)])[0], "none")
        self.assertEqual(solve_equations(8, one[:11] + [row(*[1] * 8, 28)])[0], "one")
        self.assertEqual(solve_equations(8, one[:7] + [row(*[0] * 9)] * 5)[0], "many")

    def test_a_first_variable_without_a_factor(self):
        self.assertEqual(solve_equations(2, [row(0, 2, 4), row(3, 0, 9)]), ("one", numbers(3, 2)))
        for rows in ([row(0, 2, 4)], [row(0, 0, 0), row(0, 2, 4)]):
            self.assert_right(2, rows, solve_equations(2, rows))

    def test_many_systems(self):
        kinds = []
        for count, rows in random_systems("solve", 600):
            check_equations(count, rows)
            answer = solve_equations(count, rows)
            self.assertEqual(answer[0], kind_of_system(rows, count))
            self.assert_right(count, rows, answer)
            kinds.append(answer[0])
        self.assertGreater(min(kinds.count(kind) for kind in ("one", "many", "none")), 40)

    def assert_right(self, count, rows, answer):
        for values in answer[1:]:
            self.assertIsInstance(values, list)
            self.assertTrue(all(is_number(value) for value in values))
        if answer[0] == "none":
            self.assertEqual(len(answer), 2)
            self.assertEqual(len(answer[1]), len(rows))
            factors, bound = added_up(count, rows, answer[1])
            self.assertEqual(factors, [0] * count)
            self.assertNotEqual(bound, 0)
            return
        self.assertEqual(len(answer[1]), count)
        self.assertTrue(fulfills(rows, answer[1], [fraction(bound) for _, bound in rows]))
        self.assertEqual(len(answer), 3 if answer[0] == "many" else 2)
        if answer[0] == "many":
            self.assertEqual(len(answer[2]), count)
            self.assertTrue(any(fraction(value) for value in answer[2]))
            self.assertTrue(fulfills(rows, answer[2], [0] * len(rows)))


class Judging(unittest.TestCase):
    def judge(self, rows, *answer):
        return judge_equations(2, rows, answer)

    def test_one(self):
        self.assertIs(self.judge(ONE_SOLUTION, "one", numbers(2, 1)), True)
        self.assertIs(self.judge(ONE_SOLUTION, "one", numbers(1, 2)), False)
        self.assertIs(self.judge(ONE_SOLUTION, "one", numbers(2)), False)
        self.assertIs(self.judge(ONE_SOLUTION, "one", numbers(2, 1, 0)), False)
        self.assertIs(self.judge(ONE_SOLUTION, "one", []), False)
        self.assertIs(self.judge(MANY_SOLUTIONS, "one", numbers(2, 1)), False)
        self.assertIs(self.judge([], "one", numbers(2, 1)), False)
        self.assertIs(self.judge(NO_SOLUTION, "one", numbers(2, 1)), False)

    def test_many(self):
        self.assertIs(self.judge(MANY_SOLUTIONS, "many", numbers(2, 1), numbers(3, -3)), True)
        self.assertIs(self.judge(MANY_SOLUTIONS, "many", numbers(2, 2), numbers(3, -3)), False)
        self.assertIs(self.judge(MANY_SOLUTIONS, "many", numbers(2, 1), numbers(3, 3)), False)
        self.assertIs(self.judge(MANY_SOLUTIONS, "many", numbers(2, 1), numbers(0, 0)), False)
        self.assertIs(self.judge(MANY_SOLUTIONS, "many", numbers(2, 1), numbers(3, -3, 0)), False)
        self.assertIs(self.judge(MANY_SOLUTIONS, "many", numbers(2, 1), []), False)
        self.assertIs(self.judge(MANY_SOLUTIONS, "many", [], numbers(3, -3)), False)
        self.assertIs(self.judge(ONE_SOLUTION, "many", numbers(2, 1), numbers(0, 0)), False)
        self.assertIs(self.judge(ONE_SOLUTION, "many", numbers(2, 1), numbers(1, 1)), False)
        self.assertIs(self.judge(NO_SOLUTION, "many", numbers(2, 1), numbers(1, -1)), False)
        self.assertIs(self.judge([], "many", numbers(5, 6), numbers(0, 1)), True)

    def test_none(self):
        self.assertIs(self.judge(NO_SOLUTION, "none", numbers(2, -1)), True)
        self.assertIs(self.judge(NO_SOLUTION, "none", numbers(0, 0)), False)
        self.assertIs(self.judge(NO_SOLUTION, "none", numbers(1, -1)), False)
        self.assertIs(self.judge(NO_SOLUTION, "none", numbers(2, -1, 0)), False)
        self.assertIs(self.judge(NO_SOLUTION, "none", numbers(2)), False)
        self.assertIs(self.judge(MANY_SOLUTIONS, "none", numbers(2, -1)), False)
        self.assertIs(self.judge(ONE_SOLUTION, "none", numbers(0, 0)), False)
        self.assertIs(self.judge([], "none", []), False)

    def test_many_systems(self):
        for count, rows in random_systems("judge", 300):
            answer = solve_equations(count, rows)
            self.assertIs(judge_equations(count, rows, answer), True)
            for at in range(1, len(answer)):
                for changed in (answer[at][:-1], answer[at] + [(1, 1)]):
                    wrong = answer[:at] + (changed,) + answer[at + 1:]
                    self.assertIs(judge_equations(count, rows, wrong), bool(not answer[at] and not changed))
            if answer[0] == "many":
                self.assertIs(judge_equations(count, rows, ("one", answer[1])), False)
            if answer[0] == "one":
                for at in range(count):
                    wrong = list(answer[1])
                    wrong[at] = as_number(fraction(wrong[at]) + 1)
                    self.assertIs(judge_equations(count, rows, ("one", wrong)), False)


class Following(unittest.TestCase):
    def assert_follows(self, count, rows, told):
        multipliers = follows(count, rows, told)
        self.assertEqual(len(multipliers), len(rows))
        self.assertTrue(all(is_number(value) for value in multipliers))
        self.assertEqual(added_up(count, rows, multipliers), (fractions(told[0]), fraction(told[1])))

    def test_rows_that_follow(self):
        self.assert_follows(2, ONE_SOLUTION, row(3, 1, 7))
        self.assert_follows(2, ONE_SOLUTION, row(1, 0, 2))
        self.assert_follows(2, MANY_SOLUTIONS, row(-1, -1, -3))
        self.assert_follows(2, MANY_SOLUTIONS, row(0, 0, 0))
        self.assert_follows(2, NO_SOLUTION, row(0, 0, 7))
        self.assert_follows(2, NO_SOLUTION, row(5, 5, -8))

    def test_rows_that_do_not_follow(self):
        self.assertIsNone(follows(2, ONE_SOLUTION, row(3, 1, 8)))
        self.assertIsNone(follows(2, ONE_SOLUTION, row(0, 0, 1)))
        self.assertIsNone(follows(2, MANY_SOLUTIONS, row(1, 0, 2)))
        self.assertIsNone(follows(2, MANY_SOLUTIONS, row(1, 1, 4)))
        self.assertIsNone(follows(2, NO_SOLUTION, row(1, 0, 2)))

    def test_no_rows(self):
        self.assertEqual(follows(2, [], row(0, 0, 0)), [])
        self.assertIsNone(follows(2, [], row(0, 0, 1)))
        self.assertIsNone(follows(2, [], row(0, 1, 0)))

    def test_twelve_rows(self):
        rows = [row(*[int(at == k % 8) for at in range(8)], k) for k in range(12)]
        self.assert_follows(8, rows, row(1, 1, 1, 1, 1, 1, 1, 1, 28))
        self.assert_follows(8, rows, row(1, 1, 1, 1, 1, 1, 1, 1, -5))
        self.assertIsNone(follows(8, rows[:8], row(1, 1, 1, 1, 1, 1, 1, 1, 27)))

    def test_many_systems(self):
        chance = random.Random("follow")
        found = []
        for count, rows in random_systems("follow", 300):
            told = ([random_number(chance, 1) for _ in range(count)], random_number(chance, 1))
            if rows and chance.random() < 0.6:
                told = sum_of_two(chance, rows, chance.random() < 0.3)
            whole = [fractions(factors) + [fraction(bound)] for factors, bound in rows]
            due = rank(whole + [fractions(told[0]) + [fraction(told[1])]]) == rank(whole)
            found.append(due)
            if due:
                self.assert_follows(count, rows, told)
            else:
                self.assertIsNone(follows(count, rows, told))
        self.assertGreater(min(found.count(True), found.count(False)), 60)


if __name__ == "__main__":
    unittest.main()
