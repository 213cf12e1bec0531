"""Words: how rows of words are written and read, each word by its sort.

A text stands between double quotes, doubled within; None as a hyphen.
"""

from cleanedtables.forms import is_figures
from cleanedtables.lines import signs_cell
from cleanedtables.names import is_name
from cleanedtables.worths import is_told

QUOTE = '"'
NOTHING = "-"
MOST_FIGURES = 9


def words_of(row):
    """Tell the words of a row, parted by one blank; none where one is empty or its quotes are at fault."""
    words = []
    at = 0
    while at <= len(row):
        cell = signs_cell(row, at, " ", QUOTE)
        if cell is None or cell[0] == cell[1]:
            return []
        words.append(row[cell[0]:cell[1]])
        at = cell[1] + 1
    return words


def is_quoted(word):
    """Tell whether one of the words of a row is a text between quotes."""
    return word.startswith(QUOTE)


def is_number_word(word):
    """Tell whether a word is a number: without a nought ahead, without a sign but below 0."""
    figures = word[1:] if word.startswith("-") else word
    if not is_figures(figures, MOST_FIGURES):
        return False
    return word == "0" or not figures.startswith("0")


def is_of_sort(word, sort):
    """Tell whether one of the words of a row is of a sort."""
    if sort == "name":
        return is_name(word)
    if sort == "number":
        return is_number_word(word)
    if sort == "text":
        return is_quoted(word)
    if word == NOTHING:
        return True
    if sort == "name or none":
        return is_name(word)
    if sort == "cell":
        return is_quoted(word) and is_told(thing_of(word))
    return is_quoted(word) or is_number_word(word)


def thing_of(word):
    """Tell what a word of a sort is: None, a text, a number or a NAME."""
    if word == NOTHING:
        return None
    if is_quoted(word):
        return word[1:-1].replace(QUOTE + QUOTE, QUOTE)
    return int(word) if is_number_word(word) else word


def written_word(thing, sort):
    """Tell the word by which a thing of a sort is written."""
    if sort in ("name", "name or none") and thing is not None:
        return thing
    return written_worth(thing)


def written_worth(worth):
    """Tell the word by which a worth is written."""
    if worth is None:
        return NOTHING
    if isinstance(worth, str):
        return QUOTE + worth.replace(QUOTE, QUOTE + QUOTE) + QUOTE
    return str(worth)
