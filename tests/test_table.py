"""Points 70 to 75: tables, their deeds, undoing and redoing, journals and replaying."""

import copy
import random
import unittest

from oddkeep.duels import values
from oddkeep.errors import (
    BadChance, BadEntry, BadKind, BadNumber, BadSize, BadTarget, NoBranch, NoRun, NotAlike, NotHere, NothingToRedo,
    NothingToUndo, OddsError, Worse,
)
from oddkeep.games import targets
from oddkeep.numbers import is_number, total
from oddkeep.table import Table, replay
from tests.helping import EVERY_KIND, HALF, as_number, busy_games, fraction, random_games, spoiled

# The values are 1/2, 1/2, 1/4, 1/3, 1/2, 1, 0; the branches 0 and 2 of place 0 are both best.
GAME = [
    ("ours", [1, 2, 4]),
    ("draw", [(HALF, 5), ((1, 4), 6), ((1, 4), 6)]),
    ("draw", [((1, 4), 5), ((3, 4), 6)]),
    ("theirs", [5, 7, 1]),
    ("reward", (5, 2), 1),
    ("finish",),
    ("lose",),
    ("draw", [((1, 3), 5), ((2, 3), 6)]),
]
SIX = [("draw", [((1, 6), 0), ((1, 6), 1), ((1, 6), 0), ((1, 6), 2), ((1, 6), 0), ((1, 6), 0)]), ("finish",), ("lose",)]


def state(table):
    """All that can be seen of the table."""
    return (table.runs(), table.journal(), table.can_undo, table.can_redo, table.promise(), table.surplus(),
            table.finished(), table.lost(), len(table))


def whole_state(table):
    """All that can be seen of the table, also when all that can be undone or redone is."""
    other = copy.deepcopy(table)
    found = [state(other)]
    for can, step in (("can_undo", "undo"), ("can_redo", "redo")):
        while getattr(other, can):
            getattr(other, step)()
            found.append(other.runs())
    return found


class Tables(unittest.TestCase):
    def assert_refused(self, table, error, deed):
        """The deed raises exactly this error, and the table stays as it was."""
        before = whole_state(table)
        with self.assertRaises(OddsError) as caught:
            deed(table)
        self.assertIs(caught.exception.__class__, error)
        self.assertEqual(whole_state(table), before)

    def table_at(self, place, game=GAME):
        return Table(game, start=place)


class Beginning(Tables):
    def test_one_run_of_mass_1(self):
        for place in range(len(GAME)):
            table = self.table_at(place)
            self.assertEqual(table.runs(), [((1, 1), place)])
            self.assertEqual(len(table), 1)
            self.assertEqual(table.journal(), [])
            self.assertIs(table.can_undo, False)
            self.assertIs(table.can_redo, False)
            self.assertEqual(table.promise(), values(GAME)[place])
            self.assertEqual(table.surplus(), (0, 1))
            self.assertEqual(table.finished(), (1, 1) if place == 5 else (0, 1))
            self.assertEqual(table.lost(), (1, 1) if place == 6 else (0, 1))

    def test_what_the_check_of_the_game_raises(self):
        for game, error in [([], BadSize), ([("lose",)] * 31, BadSize), ([("loose",)], BadKind),
                            ([("lose", 1)], BadSize), ([("ours", [1])], BadTarget),
                            ([("draw", [(HALF, 0)])], BadChance),
                            ([("reward", (2, 4), 0)], BadNumber), ([("theirs", [])], BadSize)]:
            for start in (0, 99, True):
                with self.assertRaises(error):
                    Table(game, start=start)

    def test_a_start_that_is_no_place(self):
        for start in (-1, 8, 10 ** 9, True, False):
            with self.assertRaises(BadTarget):
                Table(GAME, start=start)
        with self.assertRaises(BadTarget):
            Table([("finish",)], start=1)

    def test_games_of_one_place_and_of_thirty(self):
        self.assertEqual(Table([("finish",)], start=0).promise(), (1, 1))
        way = [("reward", (1, 1), place + 1) for place in range(29)] + [("finish",)]
        table = Table(way, start=0)
        for _ in range(29):
            table.pass_on(0)
        self.assertEqual(table.runs(), [((1, 1), 29)])
        self.assertEqual(table.finished(), (1, 1))

    def test_tables_share_nothing(self):
        one, other = self.table_at(1), self.table_at(1)
        one.draw(0)
        self.assertEqual((len(one), len(other)), (3, 1))


class Draw(Tables):
    def test_runs_for_the_branches_in_order(self):
        table = self.table_at(1)
        self.assertIsNone(table.draw(0))
        self.assertEqual(table.runs(), [((1, 2), 5), ((1, 4), 6), ((1, 4), 6)])
        self.assertEqual(table.journal(), [("draw", 0)])
        self.assertEqual(len(table), 3)

    def test_in_the_place_of_the_run(self):
        table = self.table_at(0, SIX)
        table.draw(0)
        table.draw(2)
        part, less = (1, 6), (1, 36)
        self.assertEqual(table.runs(), [
            (part, 0), (part, 1), (less, 0), (less, 1), (less, 0), (less, 2), (less, 0), (less, 0), (part, 2),
            (part, 0), (part, 0),
        ])
        table.draw(10)
        self.assertEqual([place for _, place in table.runs()], [0, 1, 0, 1, 0, 2, 0, 0, 2, 0, 0, 1, 0, 2, 0, 0])

    def test_one_branch(self):
        table = Table([("draw", [((1, 1), 0)])], start=0)
        for _ in range(100):
            table.draw(0)
        self.assertEqual(table.runs(), [((1, 1), 0)])

    def test_no_run(self):
        table = self.table_at(1)
        for run in (1, -1, 99, True, False):
            self.assert_refused(table, NoRun, lambda table, run=run: table.draw(run))

    def test_not_here(self):
        for place in (0, 3, 4, 5, 6):
            self.assert_refused(self.table_at(place), NotHere, lambda table: table.draw(0))

    def test_sixty_runs_and_one_more(self):
        two = [("draw", [(HALF, 0), (HALF, 0)]), ("draw", [((1, 3), 0), ((1, 3), 1), ((1, 3), 0)])]
        table = Table(two, start=0)
        while len(table) < 60:
            table.draw(len(table) - 1)
        for run in (0, 59):
            self.assert_refused(table, BadSize, lambda table, run=run: table.draw(run))
        self.assertEqual(total([mass for mass, _ in table.runs()]), (1, 1))
        table.merge(0, 59)
        table.draw(0)
        self.assertEqual(len(table), 60)

    def test_sixty_runs_by_draws_of_six(self):
        table = self.table_at(0, SIX)
        while len(table) <= 55:
            table.draw(0)
        self.assertEqual(len(table), 56)
        self.assert_refused(table, BadSize, lambda table: table.draw(0))
        table.merge(0, 2)
        self.assertEqual(len(table), 55)
        table.draw(0)
        self.assertEqual(len(table), 60)
        self.assert_refused(table, BadSize, lambda table: table.draw(0))
        # A run that is not at a draw is told of first.
        self.assert_refused(table, NotHere, lambda table: table.draw(1))
        self.assert_refused(table, NoRun, lambda table: table.draw(60))

    def test_a_draw_of_one_branch_at_a_full_table(self):
        game = [("draw", [(HALF, 0), (HALF, 1)]), ("draw", [((1, 1), 1)])]
        table = Table(game, start=0)
        while len(table) < 60:
            table.draw(0)
        table.draw(59)
        self.assertEqual(len(table), 60)
        self.assert_refused(table, BadSize, lambda table: table.draw(0))


class PassOn(Tables):
    def test_the_run_goes_on(self):
        table = self.table_at(4)
        self.assertIsNone(table.pass_on(0))
        self.assertEqual(table.runs(), [((1, 1), 1)])
        self.assertEqual(table.journal(), [("pass", 0)])

    def test_no_run_and_not_here(self):
        for run in (1, -1, True, False):
            self.assert_refused(self.table_at(4), NoRun, lambda table, run=run: table.pass_on(run))
        for place in (0, 1, 3, 5, 6):
            self.assert_refused(self.table_at(place), NotHere, lambda table: table.pass_on(0))

    def test_the_other_runs_stay(self):
        game = [("draw", [((1, 3), 1), ((1, 3), 1), ((1, 3), 2)]), ("reward", (1, 1), 2), ("lose",)]
        table = Table(game, start=0)
        table.draw(0)
        table.pass_on(1)
        self.assertEqual(table.runs(), [((1, 3), 1), ((1, 3), 2), ((1, 3), 2)])


class Choose(Tables):
    def test_the_run_goes_on_where_nothing_is_lost(self):
        for branch, place in ((0, 1), (2, 4)):
            table = self.table_at(0)
            self.assertIsNone(table.choose(0, branch=branch))
            self.assertEqual(table.runs(), [((1, 1), place)])
            self.assertEqual(table.journal(), [("choose", 0, branch)])

    def test_worse(self):
        self.assert_refused(self.table_at(0), Worse, lambda table: table.choose(0, branch=1))
        ring = Table([("ours", [0, 1, 2]), ("finish",), ("lose",)], start=0)
        ring.choose(0, branch=0)
        self.assert_refused(ring, Worse, lambda table: table.choose(0, branch=2))
        ring.choose(0, branch=1)
        self.assertEqual(ring.finished(), (1, 1))

    def test_the_errors_in_their_order(self):
        for run in (1, -1, True, False):
            for branch in (0, 1, 3, True):
                self.assert_refused(self.table_at(0), NoRun, lambda table, run=run, branch=branch:
                                    table.choose(run, branch=branch))
        for place in (1, 3, 4, 5, 6):
            for branch in (0, 9, True):
                self.assert_refused(self.table_at(place), NotHere, lambda table, branch=branch:
                                    table.choose(0, branch=branch))
        for branch in (3, -1, 10 ** 9, True, False):
            self.assert_refused(self.table_at(0), NoBranch, lambda table, branch=branch: table.choose(0, branch=branch))

    def test_a_place_of_no_value(self):
        game = [("ours", [0, 1]), ("lose",)]
        for branch in (0, 1):
            table = Table(game, start=0)
            table.choose(0, branch=branch)
            self.assertEqual(table.surplus(), (0, 1))


class Reply(Tables):
    def test_the_run_goes_on(self):
        for branch, place, surplus in ((0, 5, (2, 3)), (1, 7, (0, 1)), (2, 1, (1, 6))):
            table = self.table_at(3)
            self.assertIsNone(table.reply(0, branch=branch))
            self.assertEqual(table.runs(), [((1, 1), place)])
            self.assertEqual(table.journal(), [("reply", 0, branch)])
            self.assertEqual(table.surplus(), surplus)

    def test_the_errors_in_their_order(self):
        for run in (1, -1, True, False):
            for branch in (0, 3, True):
                self.assert_refused(self.table_at(3), NoRun, lambda table, run=run, branch=branch:
                                    table.reply(run, branch=branch))
        for place in (0, 1, 4, 5, 6):
            for branch in (0, 9, True):
                self.assert_refused(self.table_at(place), NotHere, lambda table, branch=branch:
                                    table.reply(0, branch=branch))
        for branch in (3, -1, True, False):
            self.assert_refused(self.table_at(3), NoBranch, lambda table, branch=branch: table.reply(0, branch=branch))


class Merge(Tables):
    def drawn(self):
        table = self.table_at(0, SIX)
        table.draw(0)
        return table

    def test_the_earlier_one_gets_the_masses(self):
        for run, other in ((2, 5), (5, 2)):
            table = self.drawn()
            self.assertIsNone(table.merge(run, other))
            part = (1, 6)
            self.assertEqual(table.runs(), [(part, 0), (part, 1), ((1, 3), 0), (part, 2), (part, 0)])
            self.assertEqual(table.journal(), [("draw", 0), ("merge", run, other)])
        table.merge(4, 0)
        self.assertEqual(table.runs(), [((1, 3), 0), ((1, 6), 1), ((1, 3), 0), ((1, 6), 2)])
        table.merge(0, 2)
        self.assertEqual(table.runs(), [((2, 3), 0), ((1, 6), 1), ((1, 6), 2)])

    def test_ends_can_be_merged(self):
        table = self.table_at(1)
        table.draw(0)
        table.merge(1, 2)
        self.assertEqual(table.runs(), [((1, 2), 5), ((1, 2), 6)])
        self.assertEqual((table.finished(), table.lost()), (HALF, HALF))

    def test_no_run(self):
        for run, other in [(6, 0), (0, 6), (-1, 0), (0, -1), (True, 0), (0, True), (False, 2), (2, False), (6, 6),
                           (True, True), (99, 1)]:
            self.assert_refused(self.drawn(), NoRun, lambda table, run=run, other=other: table.merge(run, other))

    def test_not_alike(self):
        for run, other in [(0, 0), (5, 5), (0, 1), (1, 0), (3, 2), (1, 3)]:
            self.assert_refused(self.drawn(), NotAlike, lambda table, run=run, other=other: table.merge(run, other))


class UndoAndRedo(Tables):
    def test_nothing_to_undo_and_nothing_to_redo(self):
        table = self.table_at(0)
        self.assert_refused(table, NothingToUndo, Table.undo)
        self.assert_refused(table, NothingToRedo, Table.redo)
        table.choose(0, branch=0)
        self.assert_refused(table, NothingToRedo, Table.redo)
        table.undo()
        self.assert_refused(table, NothingToUndo, Table.undo)
        table.redo()
        self.assert_refused(table, NothingToRedo, Table.redo)

    def test_one_deed_after_another(self):
        table = self.table_at(0)
        seen = [table.runs()]
        for deed in (lambda: table.choose(0, branch=2), lambda: table.pass_on(0), lambda: table.draw(0),
                     lambda: table.merge(2, 1)):
            deed()
            seen.append(table.runs())
        for _ in range(2):
            for at in (3, 2, 1, 0):
                self.assertIs(table.can_undo, True)
                self.assertIsNone(table.undo())
                self.assertEqual(table.runs(), seen[at])
                self.assertIs(table.can_redo, True)
            self.assertIs(table.can_undo, False)
            for at in (1, 2, 3, 4):
                self.assertIs(table.can_redo, True)
                self.assertIsNone(table.redo())
                self.assertEqual(table.runs(), seen[at])
            self.assertIs(table.can_redo, False)

    def test_the_last_one_that_is_in_force_is_undone(self):
        table = self.table_at(0)
        table.choose(0, branch=2)
        table.pass_on(0)
        table.undo()
        table.redo()
        table.draw(0)
        table.undo()
        table.undo()
        self.assertEqual(table.runs(), [((1, 1), 4)])
        table.undo()
        self.assertEqual(table.runs(), [((1, 1), 0)])
        table.redo()
        table.redo()
        table.redo()
        self.assertEqual(len(table), 3)

    def test_a_deed_takes_away_what_could_be_redone(self):
        for place, deed in [(1, lambda table: table.draw(0)), (4, lambda table: table.pass_on(0)),
                            (0, lambda table: table.choose(0, branch=0)), (3, lambda table: table.reply(0, branch=1))]:
            table = self.table_at(place)
            deed(table)
            table.undo()
            self.assertIs(table.can_redo, True)
            deed(table)
            self.assertIs(table.can_redo, False)
            self.assert_refused(table, NothingToRedo, Table.redo)
        table = self.table_at(0, SIX)
        table.draw(0)
        table.draw(0)
        table.undo()
        table.merge(0, 2)
        self.assertIs(table.can_redo, False)

    def test_a_refused_deed_leaves_what_can_be_redone(self):
        table = self.table_at(0)
        table.choose(0, branch=0)
        table.draw(0)
        table.undo()
        table.undo()
        undoing = [("redo",), ("redo",), ("undo",), ("undo",), ("undo",)]
        for error, deed in [
            (NotHere, lambda table: table.draw(0)), (NotHere, lambda table: table.reply(0, branch=0)),
            (Worse, lambda table: table.choose(0, branch=1)), (NoBranch, lambda table: table.choose(0, branch=7)),
            (NotAlike, lambda table: table.merge(0, 0)), (NoRun, lambda table: table.pass_on(3)),
            (NothingToUndo, Table.undo), (NothingToUndo, lambda table: table.do_all(undoing)),
            (NoRun, lambda table: table.do_all([("choose", 0, 2), ("pass", 0), ("pass", 1)])),
        ]:
            self.assert_refused(table, error, deed)
        table.redo()
        table.redo()
        self.assertEqual(len(table), 3)


class DoAll(Tables):
    def test_deeds_one_after_another(self):
        table = self.table_at(0)
        deeds = [("choose", 0, 2), ("pass", 0), ("undo",), ("redo",), ("draw", 0), ("merge", 1, 2)]
        self.assertIsNone(table.do_all(deeds))
        self.assertEqual(table.runs(), [((1, 2), 5), ((1, 2), 6)])
        self.assertEqual(table.journal(), deeds)
        other = self.table_at(3)
        other.do_all([("reply", 0, 2), ("draw", 0)])
        self.assertEqual(len(other), 3)

    def test_each_of_them_can_be_undone(self):
        table = self.table_at(0)
        table.do_all([("choose", 0, 0), ("draw", 0)])
        table.undo()
        self.assertEqual(table.runs(), [((1, 1), 1)])
        table.undo()
        self.assertEqual(table.runs(), [((1, 1), 0)])

    def test_no_deeds(self):
        table = self.table_at(0)
        before = whole_state(table)
        table.do_all([])
        self.assertEqual(whole_state(table), before)

    def test_all_or_nothing(self):
        deeds = [("choose", 0, 2), ("pass", 0), ("undo",), ("redo",), ("draw", 0), ("merge", 1, 2)]
        for wrong, error in [
            (("draw", 5), NoRun), (("draw", True), NoRun), (("draw", False), NoRun), (("merge", 0, 0), NotAlike),
            (("pass", 9), NoRun), (("choose", 9, 0), NoRun), (("reply", -1, 0), NoRun), (("merge", 7, 0), NoRun),
            (("choose", False, 0), NoRun),
        ]:
            for many in range(len(deeds) + 1):
                table = self.table_at(0)
                table.choose(0, branch=0)
                table.undo()
                self.assert_refused(table, error, lambda table, wrong=wrong, many=many:
                                    table.do_all(deeds[:many] + [wrong] + deeds[many:]))
                self.assertIs(table.can_redo, True)

    def test_every_error(self):
        full = [("draw", 0)] * 11
        for place, game, deeds, error in [
            (0, GAME, [("choose", 0, 0), ("choose", 0, 0)], NotHere), (0, GAME, [("choose", 0, 1)], Worse),
            (0, GAME, [("choose", 0, True)], NoBranch), (3, GAME, [("reply", 0, 3)], NoBranch),
            (3, GAME, [("reply", 0, False)], NoBranch), (0, GAME, [("undo",)], NothingToUndo),
            (0, GAME, [("redo",)], NothingToRedo), (1, GAME, [("draw", 0), ("redo",)], NothingToRedo),
            (1, GAME, [("draw", 0), ("undo",), ("undo",)], NothingToUndo), (0, SIX, full + [("draw", 0)], BadSize),
            (1, GAME, [("draw", 0), ("merge", 0, 1)], NotAlike), (1, GAME, [("draw", 0), ("merge", 1, True)], NoRun),
        ]:
            with self.subTest(deeds=deeds):
                self.assert_refused(self.table_at(place, game), error, lambda table, deeds=deeds: table.do_all(deeds))

    def test_what_is_handed_in_stays(self):
        deeds = [("choose", 0, 2), ("pass", 0)]
        table = self.table_at(0)
        table.do_all(deeds)
        self.assertEqual(deeds, [("choose", 0, 2), ("pass", 0)])
        deeds.append(("draw", 0))
        self.assertEqual(table.journal(), [("choose", 0, 2), ("pass", 0)])


class Masses(Tables):
    def test_they_are_told_of_the_runs(self):
        table = self.table_at(0)
        table.do_all([("choose", 0, 0), ("draw", 0)])
        self.assertEqual(table.promise(), HALF)
        self.assertEqual(table.surplus(), (0, 1))
        self.assertEqual((table.finished(), table.lost()), (HALF, HALF))

    def test_a_bad_reply_is_a_surplus(self):
        game = [("draw", [((1, 3), 1), ((2, 3), 2)]), ("theirs", [3, 2]), ("draw", [(HALF, 3), (HALF, 4)]), ("finish",),
                ("lose",)]
        table = Table(game, start=0)
        table.do_all([("draw", 0), ("reply", 0, 0)])
        self.assertEqual((table.promise(), table.surplus()), ((2, 3), (1, 6)))
        self.assertEqual((table.finished(), table.lost()), ((1, 3), (0, 1)))
        table.draw(1)
        self.assertEqual((table.finished(), table.lost()), ((2, 3), (1, 3)))
        self.assertEqual(table.surplus(), (1, 6))
        table.undo()
        self.assertEqual((table.finished(), table.lost()), ((1, 3), (0, 1)))


class OwnLists(Tables):
    def test_the_game_that_is_handed_in(self):
        game = copy.deepcopy(GAME)
        table = self.table_at(0, game)
        self.assertEqual(game, GAME)
        spoiled(game)
        game.clear()
        table.do_all([("choose", 0, 2), ("pass", 0), ("draw", 0), ("merge", 1, 2)])
        self.assertEqual(table.runs(), [((1, 2), 5), ((1, 2), 6)])
        self.assertEqual(table.surplus(), (0, 1))
        self.assertEqual(game, [])
        with self.assertRaises(NoBranch):
            other = copy.deepcopy(GAME)
            table = self.table_at(3, other)
            spoiled(other)
            table.reply(0, branch=3)

    def test_what_is_returned(self):
        table = self.table_at(1)
        table.draw(0)
        before = whole_state(table)
        for returned in (table.runs(), table.journal()):
            returned.clear()
            self.assertEqual(whole_state(table), before)
        self.assertIsNot(table.runs(), table.runs())
        self.assertIsNot(table.journal(), table.journal())
        table.undo()
        table.runs().append("spoiled")
        self.assertEqual(table.runs(), [((1, 1), 1)])

    def test_what_was_returned_earlier(self):
        table = self.table_at(1)
        runs, journal = table.runs(), table.journal()
        table.draw(0)
        table.merge(1, 2)
        self.assertEqual((runs, journal), ([((1, 1), 1)], []))

    def test_reading_changes_nothing(self):
        table = self.table_at(1)
        table.draw(0)
        table.undo()
        before = whole_state(table)
        state(table)
        self.assertEqual(whole_state(table), before)


def random_deed(chance, table, game):
    """A deed that can be done at some tables, or one that can be done at none."""
    runs = len(table)
    run = chance.choice((chance.randrange(runs), chance.randrange(runs), chance.randrange(-1, runs + 2), True))
    branch = chance.choice((0, 0, 1, 1, 2, 3, False))
    words = {"draw": ("draw", run), "reward": ("pass", run), "ours": ("choose", run, branch),
             "theirs": ("reply", run, branch)}
    if chance.random() < 0.15:
        return chance.choice([("undo",), ("redo",)])
    if chance.random() < 0.3 or not 0 <= run < runs:
        return chance.choice([*words.values(), ("merge", run, chance.randrange(runs))])
    return words.get(game[table.runs()[run][1]][0], ("merge", run, chance.randrange(runs)))


class Model:
    """A table that keeps a copy of everything before each deed, and looks at all rules one by one."""

    def __init__(self, game, start):
        self.game, self.worths = game, values(game)
        self.runs, self.past, self.later, self.entries = [((1, 1), start)], [], [], []

    def error_of(self, deed):
        word, named = deed[0], deed[1:]
        if word == "undo":
            return None if self.past else NothingToUndo
        if word == "redo":
            return None if self.later else NothingToRedo
        named_runs = named if word == "merge" else named[:1]
        if any(isinstance(run, bool) or not 0 <= run < len(self.runs) for run in named_runs):
            return NoRun
        places = [self.runs[run][1] for run in named_runs]
        if word == "merge":
            return NotAlike if named[0] == named[1] or places[0] != places[1] else None
        row = self.game[places[0]]
        if row[0] != {"draw": "draw", "pass": "reward", "choose": "ours", "reply": "theirs"}[word]:
            return NotHere
        if word == "draw":
            return BadSize if len(self.runs) + len(row[1]) > 61 else None
        if word == "pass":
            return None
        if isinstance(named[1], bool) or not 0 <= named[1] < len(row[1]):
            return NoBranch
        worse = fraction(self.worths[row[1][named[1]]]) < fraction(self.worths[places[0]])
        return Worse if word == "choose" and worse else None

    def do(self, deed):
        self.entries.append(deed)
        if deed[0] == "undo":
            self.later.append(self.runs)
            self.runs = self.past.pop()
        elif deed[0] == "redo":
            self.past.append(self.runs)
            self.runs = self.later.pop()
        else:
            self.past.append(self.runs)
            self.later = []
            self.runs = self.gone_on(*deed)

    def gone_on(self, word, run, more=None):
        runs = list(self.runs)
        mass, place = runs[run]
        if word == "merge":
            first, second = sorted((run, more))
            runs[first] = (as_number(fraction(mass) + fraction(runs[more][0])), place)
            return runs[:second] + runs[second + 1:]
        ahead = [((1, 1), x) for x in targets(self.game, place)]
        if word == "draw":
            ahead = self.game[place][1]
        elif word != "pass":
            ahead = [ahead[more]]
        runs[run:run + 1] = [(as_number(fraction(mass) * fraction(part)), x) for part, x in ahead]
        return runs

    def mass_at(self, kind):
        return as_number(sum(fraction(mass) for mass, place in self.runs if self.game[place][0] == kind))

    def promise(self):
        return sum(fraction(mass) * fraction(self.worths[place]) for mass, place in self.runs)


class ManyDeeds(Tables):
    def assert_like(self, table, model, start):
        self.assertEqual(table.runs(), model.runs)
        self.assertEqual(table.journal(), model.entries)
        self.assertEqual((table.can_undo, table.can_redo), (bool(model.past), bool(model.later)))
        self.assertEqual(len(table), len(model.runs))
        self.assertEqual(fraction(table.promise()), model.promise())
        self.assertEqual(fraction(table.surplus()), model.promise() - fraction(model.worths[start]))
        self.assertEqual(table.finished(), model.mass_at("finish"))
        self.assertEqual(table.lost(), model.mass_at("lose"))
        self.assertGreaterEqual(fraction(table.surplus()), 0)
        self.assertTrue(all(is_number(mass) for mass, _ in table.runs()))

    def play(self, chance, game, start, deeds):
        """Do many deeds, and compare the table with the model after each of them."""
        table, model = Table(game, start=start), Model(game, start)
        seen = {}
        for _ in range(deeds):
            deed = random_deed(chance, table, game)
            due = model.error_of(deed)
            seen[due] = seen.get(due, 0) + 1
            promise = table.promise()
            if due is None:
                table.do_all([deed])
                model.do(deed)
                if deed[0] in ("draw", "pass", "merge", "choose"):
                    self.assertEqual(table.promise(), promise)
                elif deed[0] == "reply":
                    self.assertGreaterEqual(fraction(table.promise()), fraction(promise))
            else:
                with self.assertRaises(OddsError) as caught:
                    table.do_all([deed])
                self.assertIs(caught.exception.__class__, due)
            self.assert_like(table, model, start)
        return table, seen

    def test_by_the_model(self):
        chance = random.Random("tables")
        seen = {}
        crowded = [[("draw", [((1, 6), 0)] * 6)]] * 5
        for game in random_games("tables", 60) + busy_games("tables", 200) + crowded:
            table, found = self.play(chance, game, chance.randrange(len(game)), 45)
            for error, many in found.items():
                seen[error] = seen.get(error, 0) + many
            if all(game[place][0] in ("finish", "lose") for _, place in table.runs()):
                # What has finished is at least what was promised at first.
                self.assertGreaterEqual(fraction(table.finished()), fraction(table.promise()))
        for error in (None, NoRun, NotHere, BadSize, NoBranch, Worse, NotAlike, NothingToUndo, NothingToRedo):
            self.assertGreater(seen.get(error, 0), 10, error)

    def test_all_runs_have_ended(self):
        chance = random.Random("ended")
        ended = 0
        for game in busy_games("ended", 200):
            table = Table(game, start=0)
            for _ in range(60):
                going = [(run, place) for run, (_, place) in enumerate(table.runs()) if targets(game, place)]
                if not going or len(table) > 50:
                    break
                run, place = going[0]
                word = {"draw": "draw", "reward": "pass", "ours": "choose", "theirs": "reply"}[game[place][0]]
                branches = range(len(targets(game, place)))
                worths = [fraction(values(game)[x]) for x in targets(game, place)]
                if word == "choose":
                    branches = [branch for branch in branches if worths[branch] == max(worths)]
                deed = (word, run) if word in ("draw", "pass") else (word, run, chance.choice(branches))
                table.do_all([deed])
            if not [place for _, place in table.runs() if targets(game, place)]:
                ended += 1
                self.assertGreaterEqual(fraction(table.finished()), fraction(values(game)[0]))
        self.assertGreater(ended, 20)

    def test_replaying(self):
        chance = random.Random("replayed")
        for game in random_games("replayed", 30) + busy_games("replayed", 60):
            start = chance.randrange(len(game))
            table, _ = self.play(chance, game, start, 25)
            journal = table.journal()
            other = replay(game, start, journal)
            self.assertEqual(journal, table.journal())
            self.assertEqual(whole_state(other), whole_state(table))


class Replay(Tables):
    def test_a_table_like_the_first_one(self):
        table = self.table_at(0)
        table.do_all([("choose", 0, 2), ("pass", 0), ("undo",), ("redo",), ("draw", 0), ("merge", 1, 2), ("undo",)])
        other = replay(GAME, 0, table.journal())
        self.assertIsInstance(other, Table)
        self.assertEqual(whole_state(other), whole_state(table))
        self.assertEqual(replay(GAME, 4, []).runs(), [((1, 1), 4)])

    def test_the_first_entry_that_can_not_be_done(self):
        for start, journal, place in [
            (0, [("draw", 0)], 0), (0, [("choose", 0, 0), ("draw", 0), ("draw", 0)], 2), (0, [("choose", 0, 1)], 0),
            (0, [("choose", 0, 0), ("undo",), ("undo",), ("draw", 9)], 2), (0, [("redo",)], 0),
            (1, [("draw", True)], 0),
            (1, [("draw", 0), ("merge", 1, 2), ("merge", True, 0)], 2), (3, [("reply", 0, False)], 0),
            (3, [("reply", 0, 0), ("pass", 0), ("redo",)], 1), (1, [("draw", 0), ("merge", 0, 1)], 1),
            (4, [("pass", 0), ("pass", 0), ("pass", 0)], 1), (4, [("pass", False)], 0),
            (1, [("draw", 0), ("draw", -1)], 1), (0, [("choose", True, 0)], 0),
        ]:
            with self.subTest(journal=journal):
                before = copy.deepcopy(journal)
                with self.assertRaises(BadEntry) as caught:
                    replay(GAME, start, journal)
                self.assertEqual(caught.exception.place, place)
                self.assertEqual(journal, before)

    def test_too_many_runs(self):
        with self.assertRaises(BadEntry) as caught:
            replay(SIX, 0, [("draw", 0)] * 20)
        self.assertEqual(caught.exception.place, 11)
        self.assertEqual(len(replay(SIX, 0, [("draw", 0)] * 11)), 56)

    def test_what_a_table_raises(self):
        for game, start, error in [([], 0, BadSize), ([("ours", [1])], 0, BadTarget), (GAME, 8, BadTarget),
                                   (GAME, True, BadTarget), ([("loose",)], 5, BadKind)]:
            with self.assertRaises(error):
                replay(game, start, [("draw", 99)])

    def test_what_is_handed_in_stays_and_can_be_changed(self):
        game, journal = copy.deepcopy(GAME), [("choose", 0, 0), ("draw", 0)]
        table = replay(game, 0, journal)
        self.assertEqual((game, journal), (GAME, [("choose", 0, 0), ("draw", 0)]))
        before = whole_state(table)
        spoiled(game)
        journal.clear()
        self.assertEqual(whole_state(table), before)
        table.do_all([("merge", 2, 1)])
        self.assertEqual(len(table), 2)

    def test_every_kind(self):
        table = replay(EVERY_KIND, 2, [("reply", 0, 0), ("pass", 0)])
        self.assertEqual((table.lost(), table.finished()), ((1, 1), (0, 1)))


if __name__ == "__main__":
    unittest.main()
