"""Drawings of negatives and of open times, and recipes as texts."""

from maskedprints.basics import MOST_DEEDS, MOST_TICKS, is_number
from maskedprints.errors import InvalidLine
from maskedprints.recipes import open_times

LONGEST_NUMBER = 2
# How many times and paces the row of each deed has; behind that of an exposure stand the covered cells.
TIMES = {"expose": 1, "draw": 2, "flip": 0}


def picture(negative):
    """The text of the densities of a negative, row by row."""
    return "\n".join(in_rows(negative.densities, negative.width))


def recipe_text(recipe):
    """The text of a recipe, with a row for each deed."""
    return "\n".join([deed_text(deed) for deed in recipe])


def read_recipe(negative, text):
    """The recipe for a negative that such a text tells."""
    deeds = []
    for row, words in enumerate(worded_rows(text)):
        word = 0 if row == MOST_DEEDS else wrong_word(words, len(negative))
        if word is not None:
            raise InvalidLine(row, word)
        deeds.append(deed_of(words))
    return tuple(deeds)


def open_map(width, height, recipe):
    """The text of the open ticks of all cells, under the straight negative and under the turned one, row by row."""
    words = [f"{straight}/{over}" for straight, over in open_times(width, height, recipe)]
    return "\n".join([" ".join(row) for row in in_rows(words, width)])


def in_rows(items, width):
    """A text or a list of one item for each cell, cut into its rows."""
    return [items[start:start + width] for start in range(0, len(items), width)]


def deed_text(deed):
    """The row of a deed."""
    numbers = (deed[1],) + deed[2] if deed[0] == "expose" else deed[1:]
    return " ".join([deed[0]] + [str(number) for number in numbers])


def deed_of(words):
    """The deed that the words of a row tell."""
    numbers = [int(word) for word in words[1:]]
    if words[0] == "expose":
        return ("expose", numbers[0], tuple(numbers[1:]))
    return (words[0], *numbers)


def worded_rows(text):
    """The words of each row of a text; the empty text has no rows."""
    if text == "":
        return []
    return [row.split(" ") for row in text.split("\n")]


def number_of(word):
    """The number that one or two digits without a needless zero tell, None if a word is something else."""
    if len(word) > LONGEST_NUMBER or not word.isascii() or not word.isdigit():
        return None
    number = int(word)
    return number if str(number) == word else None


def wrong_word(words, cells):
    """The index of the first word of a row that is wrong, superfluous or missing, None if there is none."""
    if words[0] not in TIMES:
        return 0
    wanted = 1 + TIMES[words[0]]
    for index, word in enumerate(words[1:wanted], start=1):
        if not is_number(number_of(word), 1, MOST_TICKS):
            return index
    if len(words) < wanted:
        return len(words)
    if words[0] == "expose":
        return wrong_cell(words, wanted, cells)
    return wanted if len(words) > wanted else None


def wrong_cell(words, first, cells):
    """The index of the first of the words, from a first one on, that tells no cell a mask can cover there."""
    least = 0
    for index in range(first, len(words)):
        cell = number_of(words[index])
        if not is_number(cell, least, cells - 1):
            return index
        least = cell + 1
    return None
