"""Marks: what has been seen of one key, as one number for each keeper."""

from siblingshelf.errors import BadCount, BadMark

FEWEST_KEEPERS = 1
MOST_KEEPERS = 9


def blank(many):
    """The mark of so many keepers that has seen nothing."""
    if many < FEWEST_KEEPERS or many > MOST_KEEPERS:
        raise BadCount("there are 1 to 9 keepers")
    return (0,) * many


def joined(one, other):
    """The mark that has for each keeper the greater number of both marks."""
    _refuse_unlike(one, other)
    return tuple([max(first, second) for first, second in zip(one, other)])


def within(one, other):
    """Whether for no keeper the number of the first mark is greater."""
    _refuse_unlike(one, other)
    return all([first <= second for first, second in zip(one, other)])


def has_seen(mark, keeper, number):
    """Whether the mark has seen the put with this number at this keeper."""
    return number <= mark[keeper]


def _refuse_unlike(one, other):
    # zip would drop the numbers that the longer mark has more, without a word.
    if len(one) != len(other):
        raise BadMark("the marks are not of equally many keepers")
