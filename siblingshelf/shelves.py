"""Shelves: what stands for one key at one keeper, as a pair of a mark and its rows."""

from siblingshelf.marks import has_seen, joined


def put_on(shelf, keeper, value, mark):
    """The shelf behind a put of the value at this keeper, by a hand with this mark."""
    number = shelf[0][keeper] + 1
    both, rows = dropped(shelf, mark)
    # A mark that no look tells may have a greater number here; the put's own one is set all the same.
    return _with_number(both, keeper, number), sorted([*rows, (keeper, number, value)])


def dropped(shelf, mark):
    """The shelf behind a drop, by a hand with this mark."""
    return joined(shelf[0], mark), _unseen(shelf[1], mark)


def met(one, other):
    """The shelf in which two shelves meet."""
    mark, rows = one
    other_mark, other_rows = other
    on_both = sorted(set(rows) & set(other_rows))
    unseen = _unseen(rows, other_mark) + _unseen(other_rows, mark)
    return joined(mark, other_mark), sorted(on_both + unseen)


def _unseen(rows, mark):
    return [row for row in rows if not has_seen(mark, row[0], row[1])]


def _with_number(mark, keeper, number):
    return mark[:keeper] + (number,) + mark[keeper + 1:]
