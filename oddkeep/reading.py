"""Reading: games and strategies from their written forms."""

from oddkeep.errors import BadText
from oddkeep.games import LENGTHS, SIDES, check_game, check_strategy
from oddkeep.numbers import is_short
from oddkeep.writing import write_number

MOST_DIGITS = 3


def lines_of(text):
    """Go through the lines of the text, in order, without their newlines."""
    lines = text.split("\n")
    rest = lines.pop()
    yield from lines
    if rest != "":
        yield rest


def words_of(line):
    """Return the words of the line, each one behind the column of its first character."""
    words = []
    column = 1
    for word in line.split(" "):
        words.append((column, word))
        column += len(word) + 1
    return words


def read_number(word):
    """Return the short number whose written form the word is, or None."""
    head, slash, tail = word.partition("/")
    n = _whole(head.removeprefix("-"))
    d = _whole(tail) if slash else 1
    if n is None or d is None:
        return None
    found = (-n, d) if head.startswith("-") else (n, d)
    # Words such as -0 and 3/1 tell a short number, but another word is its written form.
    if not is_short(found) or write_number(found) != word:
        return None
    return found


def _whole(word):
    if not word.isascii() or not word.isdigit() or len(word) > MOST_DIGITS:
        return None
    if word.startswith("0") and word != "0":
        return None
    return int(word)


def read_game(text):
    """Return the game whose written form the text is."""
    game = _read_lines(text, _fits_place, _place_of)
    check_game(game)
    return game


def read_strategy(game, side, text):
    """Return the strategy of the side whose written form the text is."""
    found = _read_lines(text, _fits_strategy, _strategy_of)
    if not found:
        raise BadText(1, 1)
    strategy = found[0]
    check_strategy(game, side, strategy)
    return strategy


def _read_lines(text, fits, made_of):
    lines = list(lines_of(text))
    made = []
    for line, row in enumerate(lines, start=1):
        words = row.split(" ")
        for at, (column, _) in enumerate(words_of(row)):
            if not fits(line, words, at):
                raise BadText(line, column)
        found = made_of(words)
        ended = line < len(lines) or text.endswith("\n")
        if found is None or not ended:
            raise BadText(line, len(row) + 1)
        made.append(found)
    return made


def _fits_place(line, words, at):
    # A place of any kind can stand at any line.
    kind = words[0]
    word = words[at]
    if at == 0:
        return kind in LENGTHS
    if kind == "draw" and at % 2 == 1 or kind == "reward" and at == 1:
        return read_number(word) is not None
    if kind == "draw" or kind in SIDES or kind == "reward" and at == 2:
        return _whole(word) is not None
    return False


def _place_of(words):
    """Return the place whose line has these words, or None if words are missing."""
    kind = words[0]
    if kind == "draw" and len(words) > 1 and len(words) % 2 == 1:
        return (kind, [(read_number(words[at]), _whole(words[at + 1])) for at in range(1, len(words), 2)])
    if kind in SIDES and len(words) > 1:
        return (kind, [_whole(word) for word in words[1:]])
    if kind == "reward" and len(words) == 3:
        return (kind, read_number(words[1]), _whole(words[2]))
    if kind == "finish" or kind == "lose":
        return (kind,)
    return None


def _fits_strategy(line, words, at):
    return line == 1 and (words[at] == "-" or _whole(words[at]) is not None)


def _strategy_of(words):
    return [None if word == "-" else _whole(word) for word in words]
