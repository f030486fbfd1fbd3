"""Rows: what they read, set and tell, singly and one behind the other."""

from safeturn.terms import names_in


def own_terms(row):
    """Tell the tuple of the terms that stand in the row itself, not in the rows within it."""
    kind = row[0]
    if kind == "set":
        return (row[2],)
    if kind == "call":
        return row[3]
    if kind == "again":
        return ()
    return (row[1],)


def own_names(row):
    """Tell the names of the row's own terms, term by term; a name of two terms stands twice."""
    return [name for term in own_terms(row) for name in names_in(term)]


def own_set(row):
    """Tell the name that the row itself sets, or None."""
    if row[0] == "set" or row[0] == "call":
        return row[1]
    return None


def has_rows(row):
    """Tell whether the row has a tuple of rows within it, be it an empty one."""
    return row[0] == "when" or row[0] == "again"


def rows_within(row):
    """Tell the tuple of the rows that stand directly within the row."""
    return row[2] if has_rows(row) else ()


def reads(row):
    """Tell the names that the row's own terms and the rows within read, rising, each once."""
    found = own_names(row)
    for inner in rows_within(row):
        found.extend(reads(inner))
    return sorted(set(found))


def sets(row):
    """Tell the names that the row itself and the rows within set, rising, each once."""
    own = own_set(row)
    found = [] if own is None else [own]
    for inner in rows_within(row):
        found.extend(sets(inner))
    return sorted(set(found))


def tells(program, row):
    """Tell whether the row tells: by itself, by the function that it calls, or by a row within."""
    return _tells_by(_telling(program), row)


def _telling(program):
    # Gone through until no more are found, because a function that `folded` was told may stand
    # ahead of one that it calls.
    telling = {}
    known = -1
    while known < len(telling):
        known = len(telling)
        for function in program:
            if any([_tells_by(telling, row) for row in function[2]]):
                telling[function[0]] = True
    return telling


def _tells_by(telling, row):
    kind = row[0]
    if kind == "tell":
        return True
    if kind == "call":
        return row[2] in telling
    return any([_tells_by(telling, inner) for inner in rows_within(row)])


def surely_set(rows):
    """Tell the names that the rows, one behind the other, surely set, rising, each once."""
    found = []
    for row in rows:
        found.extend(_surely_set_by(row))
    return sorted(set(found))


def _surely_set_by(row):
    if row[0] == "again" and row[1] > 0:
        return surely_set(row[2])
    own = own_set(row)
    return [] if own is None else [own]


def first_read(rows):
    """Tell the names that the rows, one behind the other, first read, rising, each once."""
    found = set()
    ahead = set()
    for row in rows:
        for name in _first_read_by(row):
            if name not in ahead:
                found.add(name)
        for name in _surely_set_by(row):
            ahead.add(name)
    return sorted(found)


def _first_read_by(row):
    found = own_names(row)
    if row[0] != "again" or row[1] > 0:
        found.extend(first_read(rows_within(row)))
    return found
