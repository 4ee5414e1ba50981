"""The names and the arguments of the interface, each in its own file."""

import importlib
import inspect
import unittest

from oddkeep.table import Table

FUNCTIONS = {
    "oddkeep.numbers": {
        "is_number": "(value)",
        "is_short": "(value)",
        "number": "(n, d)",
        "compare": "(a, b)",
        "plus": "(a, b)",
        "minus": "(a, b)",
        "times": "(a, b)",
        "divided": "(a, b)",
        "total": "(numbers)",
    },
    "oddkeep.games": {
        "check_game": "(game)",
        "check_strategy": "(game, side, strategy)",
        "targets": "(game, place)",
        "places_of": "(game, kind)",
        "is_chain": "(game)",
        "with_strategy": "(game, side, strategy)",
        "exchanged": "(game)",
        "reached": "(game, place)",
        "sources": "(game, place)",
    },
    "oddkeep.reading": {
        "lines_of": "(text)",
        "words_of": "(line)",
        "read_number": "(word)",
        "read_game": "(text)",
        "read_strategy": "(game, side, text)",
    },
    "oddkeep.writing": {
        "write_number": "(number)",
        "write_place": "(place)",
        "write_game": "(game)",
        "write_strategy": "(strategy)",
    },
    "oddkeep.masses": {
        "masses_after": "(chain, place, *, steps)",
        "finished_within": "(chain, *, steps)",
        "values_of_steps": "(game, *, steps)",
        "good_moves": "(game, *, steps)",
    },
    "oddkeep.runs": {
        "is_run": "(game, run)",
        "chance_of": "(chain, run)",
        "runs_of": "(chain, place, *, steps)",
        "played": "(game, place, moves)",
    },
    "oddkeep.sure": {
        "sure_ranks": "(game)",
        "sure_strategy": "(game)",
        "shows_sure": "(game, ranks, strategy)",
        "is_escape": "(game, places)",
        "chance_ranks": "(game)",
        "no_chance": "(game)",
        "keeping_away": "(game)",
        "is_closed": "(game, places)",
        "stages": "(game)",
        "almost_sure": "(game)",
        "shows_almost_sure": "(game, places, strategy, ranks)",
    },
    "oddkeep.linear": {
        "check_equations": "(count, rows)",
        "is_solution": "(count, rows, numbers)",
        "is_direction": "(count, rows, numbers)",
        "refutes": "(count, rows, multipliers)",
        "solve_equations": "(count, rows)",
        "judge_equations": "(count, rows, answer)",
        "follows": "(count, rows, row)",
    },
    "oddkeep.chains": {
        "check_chain": "(chain)",
        "chances": "(chain, goals)",
        "are_chances": "(chain, goals, numbers)",
        "closed_classes": "(chain)",
        "shares": "(chain, closed)",
        "expected_steps": "(chain)",
        "expected_rewards": "(chain)",
        "are_rewards": "(chain, numbers)",
    },
    "oddkeep.deciding": {
        "mean_at": "(game, place, numbers)",
        "is_upper": "(game, numbers, *, theirs)",
        "is_lower": "(game, numbers, *, ours, ranks)",
        "least_ranks": "(game, numbers, *, ours)",
        "least_against": "(game, ours)",
        "greatest_against": "(game, theirs)",
        "improved": "(game, ours, numbers)",
    },
    "oddkeep.duels": {
        "values": "(game)",
        "answer_of": "(game)",
        "check_answer": "(game, answer)",
        "improvements": "(game, ours)",
        "greedy": "(game, numbers, *, side)",
        "is_best": "(game, strategy, *, side)",
        "gap": "(game, *, ours, theirs)",
    },
    "oddkeep.observing": {
        "chances_of": "(chain, condition)",
        "conditioned": "(chain, condition)",
        "run_chance_given": "(chain, run, *, condition)",
        "rewards_given": "(chain, place, *, condition)",
    },
    "oddkeep.alike": {
        "kind_of": "(chain, place)",
        "chance_into": "(chain, place, places)",
        "is_alike_division": "(chain, classes)",
        "rounds": "(chain)",
        "parting_round": "(chain, one, other)",
        "passes": "(chain, place, test)",
        "depth": "(test)",
        "telling_test": "(chain, one, other)",
        "quotient": "(chain)",
    },
    "oddkeep.stakes": {
        "stakes": "(game)",
        "stakes_paper": "(game)",
        "is_stakes_paper": "(game, paper)",
        "are_upper_stakes": "(game, numbers, *, theirs)",
        "are_lower_stakes": "(game, numbers, *, ours)",
        "stakes_of_steps": "(game, *, steps)",
        "expected_stakes": "(game, *, ours, theirs)",
        "with_prizes": "(game)",
    },
    "oddkeep.table": {
        "replay": "(game, start, journal)",
    },
    "oddkeep.building": {
        "one_after": "(first, second)",
        "choice_between": "(games, *, side)",
        "mixture": "(parts)",
        "turned_about": "(game)",
        "always_ends": "(game)",
    },
}

METHODS = {
    "__init__": "(self, game, *, start)",
    "__len__": "(self)",
    "draw": "(self, run)",
    "pass_on": "(self, run)",
    "choose": "(self, run, *, branch)",
    "reply": "(self, run, *, branch)",
    "merge": "(self, run, other)",
    "undo": "(self)",
    "redo": "(self)",
    "do_all": "(self, deeds)",
    "runs": "(self)",
    "promise": "(self)",
    "surplus": "(self)",
    "finished": "(self)",
    "lost": "(self)",
    "journal": "(self)",
}


class Interface(unittest.TestCase):
    def test_functions(self):
        for module, functions in FUNCTIONS.items():
            for name, arguments in functions.items():
                with self.subTest(module=module, name=name):
                    function = getattr(importlib.import_module(module), name)
                    self.assertTrue(inspect.isfunction(function))
                    self.assertEqual(function.__module__, module)
                    self.assertEqual(str(inspect.signature(function)), arguments)

    def test_the_class_of_tables(self):
        self.assertEqual(Table.__module__, "oddkeep.table")
        self.assertEqual(str(inspect.signature(Table)), "(game, *, start)")
        for name, arguments in METHODS.items():
            with self.subTest(name=name):
                # The methods stand in the class itself, not in a base class.
                method = vars(Table)[name]
                self.assertTrue(inspect.isfunction(method))
                self.assertEqual(str(inspect.signature(method)), arguments)
        for name in ("can_undo", "can_redo"):
            self.assertIsInstance(vars(Table)[name], property)


if __name__ == "__main__":
    unittest.main()
