"""Commands: which words make a line of a session."""

from neverlate.rules import GREATEST_HORIZON, is_name
from neverlate.words import read_number

MOST_DIGITS_OF_A_NUMBER = 7
ALONE = ("undo", "redo", "answers")
WITH_A_NAME = ("task", "drop", "answer", "system")
REMOVED = ("task", "table")
SHOWN = ("tasks", "tables", "questions")


def split_words(line):
    """Return the words of the line."""
    return [word for word in line.split(" ") if word != ""]


def is_number(word):
    """Return True if the word is a number."""
    return read_number(word, MOST_DIGITS_OF_A_NUMBER) is not None


def is_command(words):
    """Return True if the words are a command."""
    word = words[0]
    rest = words[1:]
    if word in ALONE:
        return len(rest) == 0
    if word in WITH_A_NAME:
        return len(rest) == 1 and is_name(rest[0])
    if word == "show":
        return len(rest) == 1 and rest[0] in SHOWN
    if word == "remove":
        return len(rest) == 2 and rest[0] in REMOVED and is_name(rest[1])
    if word == "table":
        return len(rest) >= 2 and is_name(rest[0]) and _are_numbers(rest[1:])
    if word == "ask":
        return len(rest) >= 3 and is_name(rest[0]) and _is_horizon(rest[1]) and _are_names(rest[2:])
    return False


def is_block_line(words):
    """Return True if the words may stand in the block of a task."""
    if words[0] == "end":
        return len(words) == 1
    if words[0] == "kind":
        return len(words) == 4 and is_name(words[1]) and _are_numbers(words[2:])
    if words[0] == "way":
        return len(words) == 4 and _are_names(words[1:3]) and is_number(words[3])
    return False


def _is_horizon(word):
    """True if the word is a horizon."""
    return is_number(word) and 1 <= int(word) <= GREATEST_HORIZON


def _are_numbers(words):
    """True if all words are numbers."""
    return all([is_number(word) for word in words])


def _are_names(words):
    """True if all words are names."""
    return all([is_name(word) for word in words])
