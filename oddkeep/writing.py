"""Writing: the written forms of games and of strategies."""

from oddkeep.games import SIDES


def write_number(number):
    """Return the written form of a short number."""
    n, d = number
    if d == 1:
        return str(n)
    return f"{n}/{d}"


def write_place(place):
    """Return the line of a place of a game, without a newline."""
    words = [place[0]]
    if place[0] == "draw":
        for chance, x in place[1]:
            words.append(write_number(chance))
            words.append(str(x))
    elif place[0] in SIDES:
        words.extend([str(x) for x in place[1]])
    elif place[0] == "reward":
        words.append(write_number(place[1]))
        words.append(str(place[2]))
    return " ".join(words)


def write_game(game):
    """Return the written form of the game."""
    return "".join([write_place(row) + "\n" for row in game])


def write_strategy(strategy):
    """Return the written form of the strategy."""
    words = ["-" if told is None else str(told) for told in strategy]
    return " ".join(words) + "\n"
