"""Alike places of chains: divisions, tests that tell places apart, and quotients."""

from oddkeep.games import targets
from oddkeep.linear import ZERO
from oddkeep.masses import chances_from
from oddkeep.numbers import compare, total


def kind_of(chain, place):
    """Return the kind of the place: its word, and the amount of a reward."""
    row = chain[place]
    return row[:2] if row[0] == "reward" else row[:1]


def chance_into(chain, place, places):
    """Return the chance that the step from the place leads into the list of places."""
    return total([chance for chance, x in chances_from(chain, place) if x in places])


def is_alike_division(chain, classes):
    """Tell whether the list of lists of places is an alike division of the chain."""
    if not _is_division(chain, classes):
        return False
    seen = [_seen_from(chain, place, classes) for place in range(len(chain))]
    return all([seen[place] == seen[members[0]] for members in classes for place in members])


def rounds(chain):
    """Return the divisions of the rounds, the last one being the coarsest alike division."""
    divisions = [_grouped([kind_of(chain, place) for place in range(len(chain))])]
    while True:
        classes = divisions[-1]
        finer = _grouped([
            (_class_at(classes, place), _seen_from(chain, place, classes)) for place in range(len(chain))
        ])
        if finer == classes:
            return divisions
        divisions.append(finer)


def parting_round(chain, one, other):
    """Return the first round in which the places are parted, or None if they are alike."""
    return _parting(rounds(chain), one, other)


def passes(chain, place, test):
    """Tell whether the place passes the test."""
    return place in _passing(chain, test)


def depth(test):
    """Return the depth of the test."""
    depths = []
    for part in _parts_first(test):
        if part[0] == "kind":
            depths.append(0)
        elif part[0] == "both":
            depths.append(max(depths.pop(), depths.pop()))
        elif part[0] == "next":
            depths.append(depths.pop() + 1)
    return depths.pop()


def telling_test(chain, one, other):
    """Return a test that the first place passes and the other one does not, or None if they are alike.

    The depth of the test is their parting round.
    """
    divisions = rounds(chain)
    if _parting(divisions, one, other) is None:
        return None
    return _telling(chain, divisions, one, other)


def quotient(chain):
    """Return the quotient of the chain: a place for each class of alike places."""
    classes = rounds(chain)[-1]
    return [_place_of_class(chain, members[0], classes) for members in classes]


def _is_division(chain, classes):
    if any([members == [] or members != sorted(members) for members in classes]):
        return False
    firsts = [members[0] for members in classes]
    named = [place for members in classes for place in members]
    return firsts == sorted(firsts) and sorted(named) == list(range(len(chain)))


def _seen_from(chain, place, classes):
    """Return all that an alike division asks of the place."""
    return (kind_of(chain, place), tuple([chance_into(chain, place, members) for members in classes]))


def _grouped(marks):
    """Return the division in which the places with equal marks are together."""
    classes = {}
    for place, mark in enumerate(marks):
        classes.setdefault(mark, []).append(place)
    return list(classes.values())


def _class_at(classes, place):
    return [place in members for members in classes].index(True)


def _parting(divisions, one, other):
    for at, classes in enumerate(divisions):
        if _class_at(classes, one) != _class_at(classes, other):
            return at
    return None


def _parts_first(test):
    """Return the tests of which the test is made up, each behind its own parts, without recursion."""
    found = []
    waiting = [test]
    while waiting:
        part = waiting.pop()
        found.append(part)
        if part[0] == "next":
            waiting.append(part[2])
        elif part[0] != "kind":
            waiting.extend(part[1:])
    return found[::-1]


def _passing(chain, test):
    """Return the places that pass the test."""
    places = list(range(len(chain)))
    found = []
    for part in _parts_first(test):
        if part[0] == "kind":
            found.append([place for place in places if kind_of(chain, place) == part[1]])
        else:
            inner = found.pop()
            if part[0] == "not":
                found.append([place for place in places if place not in inner])
            elif part[0] == "both":
                found.append([place for place in found.pop() if place in inner])
            else:
                found.append([place for place in places if compare(chance_into(chain, place, inner), part[1]) >= 0])
    return found.pop()


def _telling(chain, divisions, one, other):
    at = _parting(divisions, one, other)
    if at == 0:
        return ("kind", kind_of(chain, one))
    # The chances into all classes have the same sum for both, so that some class is likelier for the first one.
    members = [some for some in divisions[at - 1] if _is_likelier(chain, some, one, other)][0]
    ahead = targets(chain, one) + targets(chain, other)
    return ("next", chance_into(chain, one, members), _singling_out(chain, divisions, members, ahead))


def _is_likelier(chain, members, one, other):
    return compare(chance_into(chain, one, members), chance_into(chain, other, members)) > 0


def _singling_out(chain, divisions, members, ahead):
    """Return a test that is passed by the members of a class, and by no other place that is ahead."""
    first = members[0]
    test = ("kind", kind_of(chain, first))
    # Tests of little depth are short, and what they tell apart needs no longer ones.
    others = sorted([(_parting(divisions, first, x), x) for x in ahead if x not in members])
    for _, x in others:
        if passes(chain, x, test):
            test = ("both", test, _telling(chain, divisions, first, x))
    return test


def _place_of_class(chain, place, classes):
    row = chain[place]
    if row[0] == "reward":
        return ("reward", row[1], _class_at(classes, row[2]))
    if row[0] != "draw":
        return row
    ahead = [(chance_into(chain, place, members), at) for at, members in enumerate(classes)]
    return ("draw", [(chance, at) for chance, at in ahead if chance != ZERO])
