"""Changes between functions: a call is put in, folded from rows, or rows are drawn out into a function."""

from safeturn.clashes import parameter_sets, refuse_clash
from safeturn.errors import Clash, NoCall, NoName, NoPlace, Taken, Unlike
from safeturn.places import needed, row_at, rows_from, with_places, with_rows
from safeturn.rows import first_read, own_set, surely_set
from safeturn.terms import is_name


def put(program, place):
    """Tell the program with the call at the place put in, and the five things that turn it round.

    These are what `folded` takes: (place, many, row, at, function). NoPlace, then NoCall where the
    row is no call, then Clash."""
    row = row_at(program, place)
    at = _called_number(program, place[0], row)
    refuse_clash(program, place, at)
    function = program[at]
    rows = _rows_put_in(row, function)
    changed = with_rows(program, place, 1, rows)
    if _is_called(changed, function[0]):
        return changed, (place, len(rows), row, at, None)
    start = _moved(place, -1)
    return changed[:at] + changed[at + 1:], (start, len(rows), row, at, function)


def _called_number(program, number, row):
    # Which function ahead of the one of that number the row calls.
    if row[0] == "call":
        for at in range(number):
            name, parameters = program[at][:2]
            if name == row[2] and len(parameters) == len(row[3]):
                return at
    raise NoCall("the row is no call of a function ahead, with as many terms")


def _rows_put_in(row, function):
    target, result = row[1], function[3]
    rows = [("set", parameter, term) for _, parameter, term in parameter_sets(row, function)]
    rows.extend(function[2])
    if target is not None and result != ("name", target):
        rows.append(("set", target, result))
    return tuple(rows)


def _is_called(program, name):
    rows = [row for function in program for _, row in with_places((), function[2])]
    return any([row[0] == "call" and row[2] == name for row in rows])


def _moved(place, by):
    # Where the place is if its function's number is another by so much.
    return (place[0] + by,) + place[1:]


def _has_function(program, name):
    return any([function[0] == name for function in program])


def folded(program, place, many, row, at, function):
    """Tell the program with the call for so many rows from the place on, and the function, if not None, at `at`.

    NoPlace, Taken, NoCall, then as `put` refuses the call in the outcome, then Unlike where putting
    it in there doesn't give the program handed in."""
    rows_from(program, place, many)
    outcome = with_rows(program, place, many, (row,))
    call_place = place
    if function is not None:
        if not 0 <= at <= place[0]:
            raise NoPlace("the function would not stand ahead of the one with the place")
        if _has_function(program, function[0]):
            raise Taken(f"a function is called {function[0]} already")
        outcome = outcome[:at] + (function,) + outcome[at:]
        call_place = _moved(place, 1)
    turned_round, _ = put(outcome, call_place)
    if turned_round != program:
        raise Unlike("putting the call in would give another program")
    return outcome


def drawn(program, place, many, name):
    """Tell the program with so many rows from the place on drawn out into a function of the name, and the call's place.

    NoPlace, then NoName, then Taken, then Clash where two names that these rows set are needed behind them."""
    if many < 1:
        raise NoPlace("rows are drawn out one or more at a time")
    rows = rows_from(program, place, many)
    if not is_name(name):
        raise NoName(f"{name} is no name")
    if _has_function(program, name):
        raise Taken(f"a function is called {name} already")
    target = _needed_set(program, place, rows)
    parameters = first_read(rows)
    if target is not None and target not in surely_set(rows):
        parameters = sorted(set(parameters + [target]))
    result = ("num", 0) if target is None else ("name", target)
    row = ("call", target, name, tuple([("name", parameter) for parameter in parameters]))
    changed = with_rows(program, place, many, (row,))
    at = place[0]
    function = (name, tuple(parameters), rows, result)
    return changed[:at] + (function,) + changed[at:], _moved(place, 1)


def _needed_set(program, place, rows):
    # The one name, or None, that the rows from the place on set and that is needed behind them.
    around, first = place[:-1], place[-1]
    needs = needed(program, around + (first + len(rows) - 1,))
    found = [
        (where, own_set(row))
        for where, row in with_places(around, rows, first)
        if own_set(row) in needs
    ]
    for where, name in found:
        if name != found[0][1]:
            raise Clash(found[0][0], where)
    return found[0][1] if found else None
