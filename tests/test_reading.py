"""Points 9, 10, 13 and 14: lines, words, and where texts are wrong."""

import random
import re
import types
import unittest
from math import gcd

from oddkeep.errors import (
    BadChance, BadSize, BadStrategy, BadTarget, BadText, OddsError,
)
from oddkeep.reading import lines_of, read_game, read_number, read_strategy, words_of
from oddkeep.writing import write_game, write_strategy
from tests.helping import EVERY_KIND, ArgumentsStay, random_games

GOOD_LINES = ["draw 1/2 1 1/2 0", "ours 0 1", "theirs 1 0", "reward 7/2 1", "finish", "lose"]
NO_NUMBERS = [
    "2/4", "3/1", "-0", "+1", "00", "01", "1/0", "0/1", "0/5", "1000", "1/1000", "-", "/", "1/", "/2", "1/-2", "",
    "a", "1a", "a1", "1/a", "a/2", "--1", "1/2/3", "1//2", "-1/-2", "- 1", " 1", "1 ", "1/ 2", "-/2", "-1/", "-01",
    "1/02", "01/2", "-1000", "-2/4", "999/999", "0/0", "-0/1", "1.5", "1_0", "1e2", "0x1", "\t1", "1\n", "+", "(1, 2)",
]
NO_WHOLE_NUMBERS = ["-", "-1", "1/2", "00", "01", "1000", "+1", "a", "1a", "", "/", "0.", "-0"]


class Arguments(ArgumentsStay, unittest.TestCase):
    CALLS = [
        (words_of, ["draw  1 "], {}),
        (read_number, ["7/2"], {}),
        (read_game, [write_game(EVERY_KIND)], {}),
        (read_strategy, [EVERY_KIND, "ours", "- 2 - - - -\n"], {}),
    ]


class Lines(unittest.TestCase):
    def test_lines(self):
        for text, lines in [
            ("", []),
            ("\n", [""]),
            ("\n\n\n", ["", "", ""]),
            ("finish\n", ["finish"]),
            ("finish", ["finish"]),
            ("ours 1\nlose\n", ["ours 1", "lose"]),
            ("ours 1\nlose", ["ours 1", "lose"]),
            ("\nlose", ["", "lose"]),
            ("lose\n\n", ["lose", ""]),
            ("a\n\nb", ["a", "", "b"]),
            (" \n b ", [" ", " b "]),
            ("a\rb\n", ["a\rb"]),
            ("a\x0bb\x0cc\x1cd\n", ["a\x0bb\x0cc\x1cd"]),
        ]:
            with self.subTest(text=text):
                self.assertEqual(list(lines_of(text)), lines)

    def test_it_is_a_generator(self):
        lines = lines_of("a\nb\n")
        self.assertIsInstance(lines, types.GeneratorType)
        self.assertEqual(next(lines), "a")
        self.assertEqual(next(lines), "b")
        self.assertEqual(list(lines), [])

    def test_it_can_be_asked_again(self):
        text = "a\nb"
        first = lines_of(text)
        self.assertEqual(next(first), "a")
        self.assertEqual(list(lines_of(text)), ["a", "b"])
        self.assertEqual(list(lines_of(text)), ["a", "b"])
        self.assertEqual(list(first), ["b"])


class Words(unittest.TestCase):
    def test_words_and_columns(self):
        for line, words in [
            ("finish", [(1, "finish")]),
            ("ours 10 2", [(1, "ours"), (6, "10"), (9, "2")]),
            ("", [(1, "")]),
            (" ", [(1, ""), (2, "")]),
            ("   ", [(1, ""), (2, ""), (3, ""), (4, "")]),
            ("a  b", [(1, "a"), (3, ""), (4, "b")]),
            (" a", [(1, ""), (2, "a")]),
            ("a ", [(1, "a"), (3, "")]),
            (" ab   c ", [(1, ""), (2, "ab"), (5, ""), (6, ""), (7, "c"), (9, "")]),
            ("a\tb", [(1, "a\tb")]),
        ]:
            with self.subTest(line=line):
                self.assertEqual(words_of(line), words)


class Numbers(unittest.TestCase):
    def test_written_forms(self):
        for word, number in [
            ("0", (0, 1)), ("-3", (-3, 1)), ("7/2", (7, 2)), ("999", (999, 1)), ("-999/998", (-999, 998)),
            ("1", (1, 1)), ("10", (10, 1)), ("1/999", (1, 999)), ("-1/2", (-1, 2)), ("100/99", (100, 99)),
        ]:
            with self.subTest(word=word):
                self.assertEqual(read_number(word), number)

    def test_others(self):
        for word in NO_NUMBERS:
            with self.subTest(word=word):
                self.assertIsNone(read_number(word))

    def test_digits_of_other_writings(self):
        for word in ("\u0661", "1/\u0662", "\u00b2", "\uff11"):
            self.assertIsNone(read_number(word))

    def test_all_short_words_of_some_characters(self):
        # Each written form of a number is one of these words, in exactly one way.
        forms = {}
        for n in range(-99, 100):
            for d in range(1, 100):
                if gcd(n, d) == 1:
                    forms[str(n) if d == 1 else f"{n}/{d}"] = (n, d)
        words = [""]
        for _ in range(5):
            words += [word + mark for word in words if len(word) == len(words[-1]) for mark in "0123/-+"]
        for word in words:
            digits = re.split("[-/]", word)
            if max(len(part) for part in digits) < 3:
                self.assertEqual(read_number(word), forms.get(word), word)


class Texts(unittest.TestCase):
    def assert_wrong_game(self, text, line, column):
        with self.subTest(text=text):
            with self.assertRaises(BadText) as caught:
                read_game(text)
            self.assertEqual((caught.exception.line, caught.exception.column), (line, column))

    def assert_wrong_strategy(self, text, line, column, game=EVERY_KIND, side="ours"):
        with self.subTest(text=text):
            with self.assertRaises(BadText) as caught:
                read_strategy(game, side, text)
            self.assertEqual((caught.exception.line, caught.exception.column), (line, column))

    def assert_wrong_line(self, row, column):
        """The line is wrong wherever it stands, and whatever stands behind it."""
        self.assert_wrong_game(row + "\n", 1, column)
        self.assert_wrong_game("finish\n" + row + "\n" + "what\n", 2, column)
        self.assert_wrong_game("".join(good + "\n" for good in GOOD_LINES) + row + "\n\n", 7, column)
        self.assert_wrong_game("lose\n" + row, 2, column)


class WrongGames(Texts):
    def test_the_example_of_the_interface(self):
        game = [("draw", [((1, 2), 1), ((1, 2), 0)]), ("finish",)]
        self.assertEqual(read_game("draw 1/2 1 1/2 0\nfinish\n"), game)
        self.assert_wrong_game("draw 1/2 1 1/2\nfinish\n", 1, 15)

    def test_wrong_first_words(self):
        for word in ("win", "Draw", "draws", "dra", "our", "oursx", "rewards", "finished", "los", "-", "1", "FINISH"):
            self.assert_wrong_line(word, 1)
            self.assert_wrong_line(word + " 1/2 1", 1)
            self.assert_wrong_line(word + " x", 1)

    def test_wrong_words_in_the_middle(self):
        for word in NO_WHOLE_NUMBERS:
            self.assert_wrong_line(f"draw 1/2 {word} 1/2 0", 10)
            self.assert_wrong_line(f"draw 1/2 10 1/2 {word} 1 1", 17)
            self.assert_wrong_line(f"draw 1/2 {word} what", 10)
            for side, column in (("ours", 6), ("theirs", 8)):
                self.assert_wrong_line(f"{side} {word} 1", column)
                self.assert_wrong_line(f"{side} 12 {word} 1", column + 3)
                self.assert_wrong_line(f"{side} 0 1 {word}", column + 4)
            self.assert_wrong_line(f"reward 1/2 {word}", 12)
            self.assert_wrong_line(f"reward 1/2 {word} 0 1", 12)

    def test_words_where_numbers_are_due(self):
        for word in NO_NUMBERS:
            if " " not in word and "\n" not in word:
                self.assert_wrong_line(f"draw {word} 1", 6)
                self.assert_wrong_line(f"draw 1/2 1 {word} 0", 12)
                self.assert_wrong_line(f"reward {word} 1", 8)

    def test_words_too_many(self):
        for word in ("1", "0", "finish", "x", "", "-"):
            self.assert_wrong_line("finish " + word, 8)
            self.assert_wrong_line("lose " + word, 6)
            self.assert_wrong_line("reward 1/2 0 " + word, 14)
        self.assert_wrong_line("finish 1 2", 8)
        self.assert_wrong_line("lose lose", 6)
        self.assert_wrong_line("draw 1 0 draw", 10)
        self.assert_wrong_line("ours 1 theirs", 8)

    def test_lines_that_end_too_early(self):
        for row in ("draw", "draw 1/2", "draw 1/2 1 1/2", "draw 1/2 1 1/2 10 -7/3", "ours", "theirs", "reward",
                    "reward 1/2", "reward 0", "reward -7"):
            self.assert_wrong_line(row, len(row) + 1)

    def test_empty_words(self):
        for row in GOOD_LINES:
            self.assert_wrong_line(" " + row, 1)
            self.assert_wrong_line(row + " ", len(row) + 2)
            self.assert_wrong_line(row + "  ", len(row) + 2)
            for at, mark in enumerate(row):
                if mark == " ":
                    self.assert_wrong_line(row[:at] + " " + row[at:], at + 2)
        self.assert_wrong_line("draw ", 6)
        self.assert_wrong_line("reward 1/2 ", 12)
        self.assert_wrong_line(" ", 1)

    def test_empty_lines(self):
        self.assert_wrong_game("\n", 1, 1)
        self.assert_wrong_game("\nfinish\n", 1, 1)
        self.assert_wrong_game("finish\n\n", 2, 1)
        self.assert_wrong_game("finish\n\nlose\n", 2, 1)
        self.assert_wrong_game("finish\n\nlose", 2, 1)

    def test_a_last_newline_left_out(self):
        for row in GOOD_LINES:
            self.assert_wrong_game(row, 1, len(row) + 1)
            self.assert_wrong_game("finish\nlose\n" + row, 3, len(row) + 1)
        self.assert_wrong_game("finish\nlose 1", 2, 6)
        self.assert_wrong_game("finish\nwin", 2, 1)
        self.assert_wrong_game("ours 0 x 1", 1, 8)
        self.assert_wrong_game("reward 1/2", 1, 11)
        self.assert_wrong_game("draw 1/2 1 1/2", 1, 15)
        self.assert_wrong_game("finish ", 1, 8)

    def test_the_first_line_with_an_error_counts(self):
        self.assert_wrong_game("finish\nours\nwin\n", 2, 5)
        self.assert_wrong_game("finish\nours x\nreward", 2, 6)
        self.assert_wrong_game("finish x x\nwin", 1, 8)

    def test_signs_that_are_no_spaces(self):
        self.assert_wrong_line("ours\t1", 1)
        self.assert_wrong_line("ours 1\t", 6)
        self.assert_wrong_line("finish\r", 1)
        self.assert_wrong_line("ours \u0661", 6)
        self.assert_wrong_line("reward 50% 1", 8)


class WrongStrategies(Texts):
    def test_the_example_of_the_interface(self):
        game = [("ours", [1, 2]), ("finish",), ("lose",)]
        self.assertEqual(read_strategy(game, "ours", "1 - -\n"), [1, None, None])

    def test_no_line(self):
        self.assert_wrong_strategy("", 1, 1)
        self.assert_wrong_strategy("", 1, 1, [("finish",)], "theirs")

    def test_two_lines(self):
        for rest in ("- 2 - - - -\n", "- 2 - - - -", "\n", "x\n", "x", " ", "-", "  -\n", "-\n-\n"):
            self.assert_wrong_strategy("- 2 - - - -\n" + rest, 2, 1)

    def test_a_wrong_first_line_is_before_a_second_one(self):
        self.assert_wrong_strategy("- x - - - -\n-\n", 1, 3)
        self.assert_wrong_strategy("\n-\n", 1, 1)
        self.assert_wrong_strategy("\n", 1, 1)

    def test_wrong_words(self):
        for word in NO_WHOLE_NUMBERS:
            if word != "-":
                self.assert_wrong_strategy(f"{word} - -\n", 1, 1)
                self.assert_wrong_strategy(f"- 2 {word} - - -\n", 1, 5)
                self.assert_wrong_strategy(f"- 2 100 {word}\n", 1, 9)
                self.assert_wrong_strategy(f"- 2 100 {word}", 1, 9)
        self.assert_wrong_strategy("--\n", 1, 1)
        self.assert_wrong_strategy("- -- x\n", 1, 3)
        self.assert_wrong_strategy("- 2 None - - -\n", 1, 5)

    def test_empty_words(self):
        self.assert_wrong_strategy(" - 2 - - - -\n", 1, 1)
        self.assert_wrong_strategy("- 2  - - - -\n", 1, 5)
        self.assert_wrong_strategy("- 2 - - - - \n", 1, 13)
        self.assert_wrong_strategy(" ", 1, 1)

    def test_the_last_newline_left_out(self):
        self.assert_wrong_strategy("- 2 - - - -", 1, 12)
        self.assert_wrong_strategy("-", 1, 2)
        self.assert_wrong_strategy("100 - 7", 1, 8)
        self.assert_wrong_strategy("- 2 x", 1, 5)


class WrongData(Texts):
    def assert_error(self, kind, call, *arguments):
        with self.subTest(arguments=arguments):
            with self.assertRaises(OddsError) as caught:
                call(*arguments)
            self.assertIs(caught.exception.__class__, kind)

    def test_games(self):
        for kind, text in [
            (BadSize, ""),
            (BadSize, "finish\n" * 31),
            (BadSize, "ours 0 0 0 0 0 0 0\n"),
            (BadSize, "theirs 0 0 0 0 0 0 0\n"),
            (BadSize, "draw" + " 1/7 0" * 7 + "\n"),
            (BadChance, "draw 0 0 1 0\n"),
            (BadChance, "draw -1/2 0 3/2 0\n"),
            (BadChance, "draw 1/2 0\n"),
            (BadChance, "draw 999 0\n"),
            (BadChance, "reward -1/2 0\n"),
            (BadTarget, "ours 1\n"),
            (BadTarget, "theirs 0 999\n"),
            (BadTarget, "draw 1 2\nlose\n"),
            (BadTarget, "reward 0 1\n"),
            (BadChance, "reward -1 999\nours 999\n"),
            (BadTarget, "ours 999\nreward -1 999\n"),
        ]:
            self.assert_error(kind, read_game, text)

    def test_strategies(self):
        game = [("ours", [0, 1]), ("theirs", [0]), ("lose",)]
        for kind, side, text in [
            (BadSize, "ours", "0 -\n"),
            (BadSize, "ours", "0 - - -\n"),
            (BadSize, "theirs", "9\n"),
            (BadStrategy, "ours", "2 - -\n"),
            (BadStrategy, "ours", "- - -\n"),
            (BadStrategy, "ours", "0 0 -\n"),
            (BadStrategy, "theirs", "0 0 -\n"),
            (BadStrategy, "theirs", "- 999 -\n"),
        ]:
            self.assert_error(kind, read_strategy, game, side, text)

    def test_the_place_of_a_wrong_strategy(self):
        game = [("ours", [0, 1]), ("ours", [0]), ("lose",)]
        for text, place in (("2 1 -\n", 0), ("1 1 -\n", 1), ("1 0 0\n", 2)):
            with self.assertRaises(BadStrategy) as caught:
                read_strategy(game, "ours", text)
            self.assertEqual(caught.exception.place, place)

    def test_the_form_of_the_whole_text_is_before_the_data(self):
        for wrong in ("ours 999\n", "reward -1 0\n", "draw 1/3 0\n", "theirs 0 0 0 0 0 0 0\n"):
            self.assert_wrong_game(wrong + "finish\nwin\n", 3, 1)
            self.assert_wrong_game(wrong + "reward 1\n", 2, 9)
            self.assert_wrong_game(wrong + "lose", 2, 5)
        self.assert_wrong_game("finish\n" * 40 + "los\n", 41, 1)
        self.assert_wrong_strategy("9 9 9 9\n-\n", 2, 1)
        self.assert_wrong_strategy("9 9 9 9", 1, 8)
        self.assert_wrong_strategy("- 9 - - - - x\n", 1, 13)


def token(word):
    """The word itself if it is one of the six; otherwise W, N or X: whole, another number, or neither."""
    if word in ("draw", "ours", "theirs", "reward", "finish", "lose"):
        return word
    if re.fullmatch("0|[1-9][0-9]{0,2}", word):
        return "W"
    match = re.fullmatch("-?([1-9][0-9]{0,2})(?:/([1-9][0-9]{0,2}))?", word)
    if match and match[2] != "1" and gcd(int(match[1]), int(match[2] or 1)) == 1:
        return "N"
    return "X"


GAME_BEGINS = "draw( [WN] W)*( [WN])?|(ours|theirs)( W)*|reward( [WN]( W)?)?|finish|lose"
GAME_LINES = "draw( [WN] W)+|(ours|theirs)( W)+|reward [WN] W|finish|lose"


def error_of_game(text):
    """The line and the column of the error by the words of point 13, or None."""
    rows = text.split("\n")
    for line, row in enumerate(rows, start=1):
        if line == len(rows) and row == "":
            return None
        words = row.split(" ")
        for many in range(1, len(words) + 1):
            if not re.fullmatch(GAME_BEGINS, " ".join(token(word) for word in words[:many])):
                return line, len(" ".join(words[:many])) - len(words[many - 1]) + 1
        if line == len(rows) or not re.fullmatch(GAME_LINES, " ".join(token(word) for word in words)):
            return line, len(row) + 1


class ManyTexts(unittest.TestCase):
    def test_changed_texts_of_games(self):
        chance = random.Random("texts")
        read = wrong = 0
        for game in random_games("texts", 3000, most_places=4):
            text = write_game(game)
            at = chance.randrange(len(text) + 1)
            text = text[:at] + chance.choice("0123 /-\nadx ") * chance.randint(0, 1) + text[at + chance.randint(0, 3):]
            due = error_of_game(text)
            try:
                found = read_game(text)
            except BadText as error:
                self.assertEqual((error.line, error.column), due, text)
                wrong += 1
            except OddsError:
                self.assertIsNone(due, text)
            else:
                self.assertIsNone(due, text)
                self.assertEqual(write_game(found), text)
                read += 1
        self.assertGreater(min(read, wrong), 200)

    def test_texts_of_strategies_that_are_read_are_written_forms(self):
        game = [("ours", [0, 1, 2]), ("theirs", [0, 1]), ("ours", [0])]
        read = 0
        texts = ["", "-", "0", "1", "00", " ", "\n", "2"]
        for text in [a + " " + b + c + d + "\n" for a in texts for b in texts for c in texts for d in texts]:
            try:
                found = read_strategy(game, "ours", text)
            except OddsError:
                continue
            self.assertEqual(write_strategy(found), text)
            read += 1
        self.assertEqual(read, 3)


if __name__ == "__main__":
    unittest.main()
