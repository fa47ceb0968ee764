"""Webs: trees of ties between places, and whether an inverse is 0 wherever no tie is."""

from cornerranks.errors import InvalidWeb
from cornerranks.exact import is_between, is_tuple_of, row_rank
from cornerranks.inverses import check_regular, check_square
from cornerranks.tables import MOST, beside, check_number, numbers_at


def _is_tie(value, many):
    """Tell whether a value is a pair of indexes below `many`, the first one below the second one."""
    if not is_tuple_of(value, 2):
        return False
    first, second = value
    return is_between(first, 0, many - 1) and is_between(second, first + 1, many - 1)


def _wrong_tie(ties, many):
    """Return the index of the first tie that is not as it has to be behind those ahead of it; None."""
    groups = list(range(many))
    ahead = ()
    for index, tie in enumerate(ties):
        if not _is_tie(tie, many) or tie <= ahead:
            return index
        kept, joined = groups[tie[0]], groups[tie[1]]
        if kept == joined:
            return index
        groups = [kept if group == joined else group for group in groups]
        ahead = tie
    return None


def are_ties(value, many):
    """Tell whether a value, whatever it is, is a web of so many places."""
    # One tie less than places, none of which joins what is tied already, tie all of them together.
    return is_tuple_of(value, many - 1) and _wrong_tie(value, many) is None


def _check_web(web, many):
    """Raise the error for what is no web of so many places."""
    if not is_tuple_of(web, many - 1):
        raise InvalidWeb(None)
    index = _wrong_tie(web, many)
    if index is not None:
        raise InvalidWeb(index)


def is_web(size, value):
    """Tell whether a value, whatever it is, is a web of so many places."""
    check_number(size, 1, MOST)
    return are_ties(value, size)


def _way_over(ties, first, second):
    """Return the places on the way over some of these ties; () if there is none."""
    if first == second:
        return (first,)
    for tie in ties:
        if first in tie:
            others = [other for other in ties if other != tie]
            behind = _way_over(others, tie[0] + tie[1] - first, second)
            if behind:
                return (first, *behind)
    return ()


def way(size, web, first, second):
    """Return the places on the way from the first place to the second one, both ends in it."""
    check_number(size, 1, MOST)
    _check_web(web, size)
    check_number(first, 0, size - 1)
    check_number(second, 0, size - 1)
    return _way_over(web, first, second)


def _is_parted(web, place, rows, columns):
    """Tell whether a place of a web parts two lots."""
    if not rows or not columns or sorted(rows + columns) != list(beside((place,), len(web) + 1)):
        return False
    for first, second in web:
        if (first in rows and second in columns) or (first in columns and second in rows):
            return False
    return True


def breaks(square, web, place, rows, columns):
    """Tell whether a place and two lots of a regular table break a web; only whether they do is checked."""
    if not _is_parted(web, place, rows, columns):
        return False
    return row_rank(numbers_at(square, sorted((place, *rows)), sorted((place, *columns)))) > 1


def _side(web, place, step):
    """Return the lot of the places to which the ways from a place go over this step."""
    others = beside((place,), len(web) + 1)
    return tuple(other for other in others if step in _way_over(web, place, other))


def _steps(web, place):
    """Return the places that are tied to a place."""
    return [tie[0] + tie[1] - place for tie in web if place in tie]


def web_break(square, web):
    """Return a triple (k, I, J) that breaks the web; None if the inverse is 0 at all untied places."""
    check_square(square)
    _check_web(web, len(square))
    check_regular(square)
    for place in range(len(square)):
        # If the inverse is 0 between each side and all others, it is so between any lots that are parted.
        for step in _steps(web, place):
            rows = _side(web, place, step)
            columns = beside((place, *rows), len(square))
            if breaks(square, web, place, rows, columns):
                return place, rows, columns
    return None


def has_web_inverse(square, web):
    """Tell whether the inverse of a table is 0 at all unlike places that are not tied."""
    return web_break(square, web) is None
