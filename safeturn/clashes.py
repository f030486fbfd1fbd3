"""What keeps a call from being put in: two places that clash."""

from safeturn.errors import Clash
from safeturn.places import needed, reading_places, row_at, with_places
from safeturn.rows import first_read, own_set, surely_set
from safeturn.terms import names_in


def parameter_sets(row, function):
    """Tell triples of a number, a parameter and its term, where a set is put in for the parameter."""
    pairs = list(zip(function[1], row[3]))
    return [
        (number, parameter, term)
        for number, (parameter, term) in enumerate(pairs)
        if term != ("name", parameter)
    ]


def refuse_clash(program, place, at):
    """Refuse with Clash to put in the call at the place, where it can't be; `at` is the number called."""
    _refuse_terms(program, place, at)
    _refuse_bare_names(program, place, at)
    _refuse_lost_names(program, place, at)


def _refuse_terms(program, place, at):
    # The call reckons all terms ahead of it; the sets put in are reckoned one behind the other.
    row = row_at(program, place)
    terms = row[3]
    for one, parameter, _ in parameter_sets(row, program[at]):
        for other in range(one + 1, len(terms)):
            if parameter in names_in(terms[other]):
                raise Clash(place + (one,), place + (other,))


def _refuse_bare_names(program, place, at):
    # A bare name is worth 0 in the function's own cells, but whatever it is where the call stands.
    bare = _bare_names(program[at])
    for where, names in reading_places(program, at):
        if any([name in bare for name in names]):
            raise Clash(where, place)


def _bare_names(function):
    parameters, rows, result = function[1:]
    sure = surely_set(rows)
    unset = first_read(rows) + [name for name in names_in(result) if name not in sure]
    return [name for name in unset if name not in parameters]


def _refuse_lost_names(program, place, at):
    # The call sets its target alone; what is put in sets these names in the calling function, too.
    target = row_at(program, place)[1]
    needs = [name for name in needed(program, place) if name != target]
    for where, name in _settings(program, place, at):
        if name in needs:
            raise Clash(where, _reading_place(program, place, name))


def _settings(program, place, at):
    function = program[at]
    sets_put_in = parameter_sets(row_at(program, place), function)
    pairs = [(place + (number,), parameter) for number, parameter, _ in sets_put_in]
    return pairs + [(where, own_set(row)) for where, row in with_places((at,), function[2])]


def _reading_place(program, place, name):
    # One behind the call tells more; where the name is needed by a next time alone, there is none.
    found = [where for where, names in reading_places(program, place[0]) if name in names]
    behind = [where for where in found if where > place]
    return behind[0] if behind else found[0]
