"""Stores: several keepers, each with a shelf for each key."""

from siblingshelf.errors import BadMark, NoKeeper
from siblingshelf.marks import blank
from siblingshelf.shelves import dropped, met, put_on


class Store:
    """So many keepers, on whose shelves nothing stands at first."""

    def __init__(self, many):
        self._blank = blank(many)
        self._shelves = [{} for _ in range(many)]

    def look(self, keeper, key):
        """The values on the keeper's shelf of the key, in the order of its rows, and its mark."""
        self._refuse_no_keeper(keeper)
        mark, rows = self._shelf(keeper, key)
        return [row[2] for row in rows], mark

    def put(self, keeper, key, value, mark):
        """Put the value on the keeper's shelf of the key, by a hand with this mark."""
        self._refuse_no_keeper(keeper)
        self._refuse_bad_mark(mark)
        self._shelves[keeper][key] = put_on(self._shelf(keeper, key), keeper, value, mark)

    def drop(self, keeper, key, mark):
        """Drop from the keeper's shelf of the key what this mark has seen."""
        self._refuse_no_keeper(keeper)
        self._refuse_bad_mark(mark)
        self._shelves[keeper][key] = dropped(self._shelf(keeper, key), mark)

    def letter(self, keeper, key):
        """The keeper's shelf of the key as it is now, to be taken by any keeper."""
        self._refuse_no_keeper(keeper)
        mark, rows = self._shelf(keeper, key)
        # A list in the letter could be changed by those who carry it.
        return key, mark, tuple(rows)

    def take(self, keeper, letter):
        """Let the keeper's shelf of the letter's key meet the letter's shelf."""
        self._refuse_no_keeper(keeper)
        key, mark, rows = letter
        self._shelves[keeper][key] = met(self._shelf(keeper, key), (mark, list(rows)))

    def keys(self, keeper):
        """The keys on whose shelves at this keeper something stands, sorted."""
        self._refuse_no_keeper(keeper)
        return sorted([key for key, (_, rows) in self._shelves[keeper].items() if rows])

    def _shelf(self, keeper, key):
        return self._shelves[keeper].get(key, (self._blank, []))

    def _refuse_no_keeper(self, keeper):
        if keeper < 0 or keeper >= len(self._blank):
            raise NoKeeper("there is no such keeper")

    def _refuse_bad_mark(self, mark):
        if not _is_mark(mark, len(self._blank)):
            raise BadMark("the mark is not one of as many keepers as there are here")


def _is_mark(mark, many):
    if not isinstance(mark, tuple) or len(mark) != many:
        return False
    # isinstance would take True and False for whole numbers.
    return all([type(number) is int and number >= 0 for number in mark])
