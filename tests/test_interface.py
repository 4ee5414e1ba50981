"""The names and the arguments of the interface, each in its own file."""

import importlib
import inspect
import unittest

FUNCTIONS = {
    "oddkeep.numbers": {
        "is_number": "(value)",
        "is_short": "(value)",
        "number": "(n, d)",
        "compare": "(a, b)",
        "plus": "(a, b)",
        "minus": "(a, b)",
        "times": "(a, b)",
        "divided": "(a, b)",
        "total": "(numbers)",
    },
    "oddkeep.games": {
        "check_game": "(game)",
        "check_strategy": "(game, side, strategy)",
        "targets": "(game, place)",
        "places_of": "(game, kind)",
        "is_chain": "(game)",
        "with_strategy": "(game, side, strategy)",
        "exchanged": "(game)",
        "reached": "(game, place)",
        "sources": "(game, place)",
    },
    "oddkeep.reading": {
        "lines_of": "(text)",
        "words_of": "(line)",
        "read_number": "(word)",
        "read_game": "(text)",
        "read_strategy": "(game, side, text)",
    },
    "oddkeep.writing": {
        "write_number": "(number)",
        "write_place": "(place)",
        "write_game": "(game)",
        "write_strategy": "(strategy)",
    },
    "oddkeep.masses": {
        "masses_after": "(chain, place, *, steps)",
        "finished_within": "(chain, *, steps)",
        "values_of_steps": "(game, *, steps)",
        "good_moves": "(game, *, steps)",
    },
    "oddkeep.runs": {
        "is_run": "(game, run)",
        "chance_of": "(chain, run)",
        "runs_of": "(chain, place, *, steps)",
        "played": "(game, place, moves)",
    },
    "oddkeep.sure": {
        "sure_ranks": "(game)",
        "sure_strategy": "(game)",
        "shows_sure": "(game, ranks, strategy)",
        "is_escape": "(game, places)",
        "chance_ranks": "(game)",
        "no_chance": "(game)",
        "keeping_away": "(game)",
        "is_closed": "(game, places)",
        "stages": "(game)",
        "almost_sure": "(game)",
        "shows_almost_sure": "(game, places, strategy, ranks)",
    },
    "oddkeep.linear": {
        "check_equations": "(count, rows)",
        "is_solution": "(count, rows, numbers)",
        "is_direction": "(count, rows, numbers)",
        "refutes": "(count, rows, multipliers)",
        "solve_equations": "(count, rows)",
        "judge_equations": "(count, rows, answer)",
        "follows": "(count, rows, row)",
    },
    "oddkeep.chains": {
        "check_chain": "(chain)",
        "chances": "(chain, goals)",
        "are_chances": "(chain, goals, numbers)",
        "closed_classes": "(chain)",
        "shares": "(chain, closed)",
        "expected_steps": "(chain)",
        "expected_rewards": "(chain)",
        "are_rewards": "(chain, numbers)",
    },
    "oddkeep.deciding": {
        "mean_at": "(game, place, numbers)",
        "is_upper": "(game, numbers, *, theirs)",
        "is_lower": "(game, numbers, *, ours, ranks)",
        "least_ranks": "(game, numbers, *, ours)",
        "least_against": "(game, ours)",
        "greatest_against": "(game, theirs)",
        "improved": "(game, ours, numbers)",
    },
    "oddkeep.duels": {
        "values": "(game)",
        "answer_of": "(game)",
        "check_answer": "(game, answer)",
        "improvements": "(game, ours)",
        "greedy": "(game, numbers, *, side)",
        "is_best": "(game, strategy, *, side)",
        "gap": "(game, *, ours, theirs)",
    },
    "oddkeep.observing": {
        "chances_of": "(chain, condition)",
        "conditioned": "(chain, condition)",
        "run_chance_given": "(chain, run, *, condition)",
        "rewards_given": "(chain, place, *, condition)",
    },
}


class Interface(unittest.TestCase):
    def test_functions(self):
        for module, functions in FUNCTIONS.items():
            for name, arguments in functions.items():
                with self.subTest(module=module, name=name):
                    function = getattr(importlib.import_module(module), name)
                    self.assertTrue(inspect.isfunction(function))
                    self.assertEqual(function.__module__, module)
                    self.assertEqual(str(inspect.signature(function)), arguments)


if __name__ == "__main__":
    unittest.main()
