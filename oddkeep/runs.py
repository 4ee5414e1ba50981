"""Runs: the ways that plays go, and their chances."""

from oddkeep.errors import BadMove, NotARun
from oddkeep.games import targets
from oddkeep.masses import ONE, step_chance
from oddkeep.numbers import times


def is_run(game, run):
    """Tell whether the list of whole numbers is a run."""
    return len(run) > 0 and _first_wrong(game, run) is None


def chance_of(chain, run):
    """Return the chance of the run, or raise NotARun at its first wrong element."""
    wrong = _first_wrong(chain, run)
    if wrong is not None:
        raise NotARun(wrong)
    chance = ONE
    for step in range(1, len(run)):
        chance = times(chance, step_chance(chain, run[step - 1], run[step]))
    return chance


def _first_wrong(game, run):
    allowed = list(range(len(game)))
    for step, place in enumerate(run):
        if place not in allowed:
            return step
        allowed = targets(game, place)
    return None


def runs_of(chain, place, *, steps):
    """Return the runs of so many steps from the place, with their chances, in order."""
    runs = [([place], ONE)]
    for _ in range(steps):
        # Runs that end earlier begin no other run, so that the order stays.
        runs = [longer for run, chance in runs for longer in _one_step_longer(chain, run, chance)]
    return runs


def _one_step_longer(chain, run, chance):
    here = run[-1]
    ahead = sorted(set(targets(chain, here)))
    if not ahead:
        return [(run, chance)]
    return [(run + [x], times(chance, step_chance(chain, here, x))) for x in ahead]


def played(game, place, moves):
    """Return the run of the play by moves, or raise BadMove at the first that is none."""
    run = [place]
    for step, move in enumerate(moves):
        ahead = targets(game, run[-1])
        if not 0 <= move < len(ahead):
            raise BadMove(step)
        run.append(ahead[move])
    return run
