"""Lines of words, as texts have them."""

from nomoreseen.errors import InvalidText
from nomoreseen.values import FIGURES


def need_lines(text):
    """The lines of a text (any value), each as a list of words; numbers stand as numbers."""
    if not isinstance(text, str):
        raise InvalidText(-1)
    return [words_of(line) for line in text.split("\n")]


def words_of(line):
    """The words of a line; those that tell a number as numbers."""
    return [_read_word(word) for word in line.split(" ") if word != ""]


def line_of(words):
    """The line that tells these words and numbers."""
    return " ".join([str(word) for word in words])


def text_of(lines):
    """The text of these lines of words and numbers."""
    return "\n".join([line_of(words) for words in lines])


def _read_word(word):
    if len(word) > 9 or (word[0] == "0" and word != "0"):
        return word
    return int(word) if all([sign in FIGURES for sign in word]) else word
