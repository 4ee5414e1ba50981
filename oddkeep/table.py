"""Tables: many runs of one game are played at once."""

from oddkeep.building import copied
from oddkeep.duels import values
from oddkeep.errors import (
    BadEntry, BadSize, BadTarget, NoBranch, NoRun, NotAlike, NotHere, NothingToRedo, NothingToUndo, OddsError, Worse,
)
from oddkeep.games import check_game, targets
from oddkeep.masses import ONE
from oddkeep.numbers import compare, is_whole, minus, plus, times, total

MOST_RUNS = 60


class Table:
    """Runs of one game, tuples (mass, place), that share a mass of 1 among them."""

    def __init__(self, game, *, start):
        check_game(game)
        if not is_whole(start) or not 0 <= start < len(game):
            raise BadTarget()
        self._game = copied(game)
        self._values = values(game)
        self._start = start
        # None of these lists is ever changed: what was before a deed can so be kept as it is.
        self._runs = [(ONE, start)]
        self._past = []
        self._undone = []
        self._entries = []

    def __len__(self):
        return len(self._runs)

    @property
    def can_undo(self):
        """Tell whether a deed is in force."""
        return len(self._past) > 0

    @property
    def can_redo(self):
        """Tell whether a deed is undone that can be in force again."""
        return len(self._undone) > 0

    def runs(self):
        """Return the list of the runs."""
        return list(self._runs)

    def journal(self):
        """Return the list of the deeds that raised no error."""
        return list(self._entries)

    def draw(self, run):
        """Put, in the place of the run, runs for the branches of its draw."""
        mass, place = self._run_at(run, "draw")
        drawn = [(times(mass, chance), x) for chance, x in self._game[place][1]]
        if len(self._runs) - 1 + len(drawn) > MOST_RUNS:
            raise BadSize()
        self._go_on(self._runs[:run] + drawn + self._runs[run + 1:], ("draw", run))

    def pass_on(self, run):
        """Let the run go on from its reward."""
        _, place = self._run_at(run, "reward")
        self._move(run, targets(self._game, place)[0], ("pass", run))

    def choose(self, run, *, branch):
        """Let the run go on along the branch from a place of ours, if nothing is lost by it."""
        _, place = self._run_at(run, "ours")
        x = self._target(place, branch)
        if compare(self._values[x], self._values[place]) < 0:
            raise Worse()
        self._move(run, x, ("choose", run, branch))

    def reply(self, run, *, branch):
        """Let the run go on along the branch from a place of theirs."""
        _, place = self._run_at(run, "theirs")
        self._move(run, self._target(place, branch), ("reply", run, branch))

    def merge(self, run, other):
        """Make one run of two runs that are at the same place."""
        if not self._is_run(run) or not self._is_run(other):
            raise NoRun()
        mass, place = self._runs[run]
        more, x = self._runs[other]
        if run == other or place != x:
            raise NotAlike()
        merged = list(self._runs)
        merged[min(run, other)] = (plus(mass, more), place)
        del merged[max(run, other)]
        self._go_on(merged, ("merge", run, other))

    def undo(self):
        """Undo the last deed that is in force."""
        if not self.can_undo:
            raise NothingToUndo()
        self._undone = self._undone + [self._runs]
        self._runs = self._past[-1]
        self._past = self._past[:-1]
        self._entries = self._entries + [("undo",)]

    def redo(self):
        """Put the deed in force again that was undone last."""
        if not self.can_redo:
            raise NothingToRedo()
        self._past = self._past + [self._runs]
        self._runs = self._undone[-1]
        self._undone = self._undone[:-1]
        self._entries = self._entries + [("redo",)]

    def do_all(self, deeds):
        """Do the deeds, told as entries of a journal, one after another, or none of them."""
        before, past, undone, entries = self._runs, self._past, self._undone, self._entries
        try:
            for deed in deeds:
                self._do(deed)
        except OddsError:
            self._runs, self._past, self._undone, self._entries = before, past, undone, entries
            raise

    def promise(self):
        """Return the sum of the mass of each run times the value of its place."""
        return total([times(mass, self._values[place]) for mass, place in self._runs])

    def surplus(self):
        """Return the promise less the value of the place at which the table began."""
        return minus(self.promise(), self._values[self._start])

    def finished(self):
        """Return the mass of the runs that have finished."""
        return self._mass_at("finish")

    def lost(self):
        """Return the mass of the runs that have ended without a finish."""
        return self._mass_at("lose")

    def _mass_at(self, kind):
        return total([mass for mass, place in self._runs if self._game[place][0] == kind])

    def _is_run(self, run):
        return is_whole(run) and 0 <= run < len(self._runs)

    def _run_at(self, run, kind):
        if not self._is_run(run):
            raise NoRun()
        _, place = self._runs[run]
        if self._game[place][0] != kind:
            raise NotHere()
        return self._runs[run]

    def _target(self, place, branch):
        ahead = targets(self._game, place)
        if not is_whole(branch) or not 0 <= branch < len(ahead):
            raise NoBranch()
        return ahead[branch]

    def _move(self, run, x, entry):
        mass, _ = self._runs[run]
        self._go_on(self._runs[:run] + [(mass, x)] + self._runs[run + 1:], entry)

    def _go_on(self, runs, entry):
        self._past = self._past + [self._runs]
        self._runs = runs
        self._undone = []
        self._entries = self._entries + [entry]

    def _do(self, deed):
        match deed:
            case ("draw", run):
                self.draw(run)
            case ("pass", run):
                self.pass_on(run)
            case ("choose", run, branch):
                self.choose(run, branch=branch)
            case ("reply", run, branch):
                self.reply(run, branch=branch)
            case ("merge", run, other):
                self.merge(run, other)
            case ("undo",):
                self.undo()
            case ("redo",):
                self.redo()


def replay(game, start, journal):
    """Return the table that is made by doing the entries of the journal in order."""
    table = Table(game, start=start)
    for at, entry in enumerate(journal):
        try:
            table.do_all([entry])
        except OddsError:
            raise BadEntry(at) from None
    return table
