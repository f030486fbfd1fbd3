"""Places: the rows that stand there, what is needed behind them, and other rows put there."""

from safeturn.errors import NoPlace
from safeturn.rows import first_read, has_rows, own_names, rows_within, surely_set
from safeturn.terms import names_in


def row_at(program, place):
    """Tell the row at the place; NoPlace where the place isn't that of a row."""
    return rows_from(program, place, 1)[0]


def rows_from(program, place, many):
    """Tell the tuple of so many rows from the place on; NoPlace where there aren't so many.

    Of no rows the place behind the last row of a tuple is one, too."""
    rows = _rows_around(program, place)
    first = place[-1]
    if first < 0 or many < 0 or first + many > len(rows):
        raise NoPlace("there are not so many rows from the place on")
    return rows[first:first + many]


def _rows_around(program, place):
    # The place's last number is left aside: what it may be depends on what the place is for.
    if len(place) < 2 or not 0 <= place[0] < len(program):
        raise NoPlace("no function has rows at the place")
    rows = program[place[0]][2]
    for number in place[1:-1]:
        if not 0 <= number < len(rows) or not has_rows(rows[number]):
            raise NoPlace("no row has rows at the place")
        rows = rows_within(rows[number])
    return rows


def needed(program, place):
    """Tell the names that are needed behind the row at the place, rising, each once."""
    row_at(program, place)
    function = program[place[0]]
    rows = function[2]
    names = names_in(function[3])
    for number in place[1:-1]:
        row = rows[number]
        names = _needed_ahead(rows[number + 1:], names)
        rows = rows_within(row)
        if row[0] == "again" and row[1] > 1:
            names = names + first_read(rows)
    return sorted(set(_needed_ahead(rows[place[-1] + 1:], names)))


def _needed_ahead(rows, names):
    # What is needed ahead of the rows, where the names are needed behind them.
    sure = surely_set(rows)
    return first_read(rows) + [name for name in names if name not in sure]


def with_places(around, rows, first=0):
    """Tell pairs of a place and a row, of the rows and all within, each ahead of those within it.

    The rows stand within what has the place `around`, from the number `first` on."""
    pairs = []
    for number, row in enumerate(rows, start=first):
        place = around + (number,)
        pairs.append((place, row))
        pairs.extend(with_places(place, rows_within(row)))
    return pairs


def reading_places(program, number):
    """Tell pairs of a place and the names of its own terms, of the function's rows and its result."""
    function = program[number]
    pairs = [(place, own_names(row)) for place, row in with_places((number,), function[2])]
    return pairs + [((number, len(function[2])), names_in(function[3]))]


def with_rows(program, place, many, rows):
    """Tell the program in which the rows stand in the place of so many from the place on."""
    name, parameters, old, result = program[place[0]]
    function = (name, parameters, _rows_with(old, place[1:], many, rows), result)
    return with_function(program, place[0], function)


def _rows_with(old, way, many, rows):
    number = way[0]
    if len(way) == 1:
        return old[:number] + rows + old[number + many:]
    row = old[number]
    changed = (row[0], row[1], _rows_with(row[2], way[1:], many, rows))
    return old[:number] + (changed,) + old[number + 1:]


def with_function(program, number, function):
    """Tell the program in which the function stands in the place of the one of that number."""
    return program[:number] + (function,) + program[number + 1:]
