"""Notes: marks as texts."""

from siblingshelf.errors import BadNote

FIGURES = "0123456789"
MOST_FIGURES = 60


def written(mark):
    """The text that writes the mark."""
    return " ".join([str(number) for number in mark])


def read(line, many):
    """The mark of so many keepers that the text writes."""
    words = line.split(" ")
    if len(words) != many or not all([_is_number(word) for word in words]):
        raise BadNote("the text does not write a mark of so many keepers")
    return tuple([int(word) for word in words])


def _is_number(word):
    if word == "" or len(word) > MOST_FIGURES:
        return False
    if word[0] == "0" and word != "0":
        return False
    return all([sign in FIGURES for sign in word])
