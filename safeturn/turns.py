"""Changes within one function: a name is another one, two rows are exchanged."""

from safeturn.errors import Clash, NoName, NoPlace
from safeturn.places import reading_places, rows_from, with_function, with_places, with_rows
from safeturn.rows import own_set, reads, sets, tells
from safeturn.terms import is_name


def renamed(program, number, old, new):
    """Tell the program with the new name for the old one in the whole function of that number.

    NoPlace where no function has the number; then NoName where the old name doesn't stand in it or
    the new one is none; then Clash where the new one, if it isn't the same, stands there already."""
    if not 0 <= number < len(program):
        raise NoPlace("no function has the number")
    one = _first_place(program, number, old)
    if one is None:
        raise NoName(f"{old} doesn't stand in the function")
    if not is_name(new):
        raise NoName(f"{new} is no name")
    if new == old:
        return program
    other = _first_place(program, number, new)
    if other is not None:
        raise Clash(one, other)
    return with_function(program, number, _renamed_function(program[number], old, new))


def _first_place(program, number, name):
    # Places rise in the order in which a function's parts stand: parameters, rows, result.
    parameters, rows = program[number][1:3]
    if name in parameters:
        return (number, -1)
    found = [place for place, row in with_places((number,), rows) if own_set(row) == name]
    found.extend([place for place, names in reading_places(program, number) if name in names])
    return min(found, default=None)


def _renamed_function(function, old, new):
    name, parameters, rows, result = function
    return (
        name,
        tuple([_renamed_name(parameter, old, new) for parameter in parameters]),
        _renamed_rows(rows, old, new),
        _renamed_term(result, old, new),
    )


def _renamed_rows(rows, old, new):
    return tuple([_renamed_row(row, old, new) for row in rows])


def _renamed_row(row, old, new):
    kind = row[0]
    if kind == "set":
        return (kind, _renamed_name(row[1], old, new), _renamed_term(row[2], old, new))
    if kind == "tell":
        return (kind, _renamed_term(row[1], old, new))
    if kind == "call":
        terms = tuple([_renamed_term(term, old, new) for term in row[3]])
        return (kind, _renamed_name(row[1], old, new), row[2], terms)
    if kind == "when":
        return (kind, _renamed_term(row[1], old, new), _renamed_rows(row[2], old, new))
    return (kind, row[1], _renamed_rows(row[2], old, new))


def _renamed_name(name, old, new):
    return new if name == old else name


def _renamed_term(term, old, new):
    kind = term[0]
    if kind == "num":
        return term
    if kind == "name":
        return (kind, _renamed_name(term[1], old, new))
    return (kind, _renamed_term(term[1], old, new), _renamed_term(term[2], old, new))


def swapped(program, place):
    """Tell the program with the row at the place and the next one in its tuple exchanged.

    NoPlace where there aren't both; Clash where one sets what the other reads or sets, or both tell."""
    one, other = rows_from(program, place, 2)
    if _bound_by_names(one, other) or (tells(program, one) and tells(program, other)):
        raise Clash(place, place[:-1] + (place[-1] + 1,))
    return with_rows(program, place, 2, (other, one))


def _bound_by_names(one, other):
    ones, others = sets(one), sets(other)
    touched = reads(one) + ones
    return any([name in touched for name in others]) or any([name in reads(other) for name in ones])
