"""Terms: the names that stand in them, and what they are worth."""

RESTS_OF = 1000003
LONGEST_NAME = 8


def is_name(text):
    """Tell whether the text is a name: 1 to 8 letters a to z."""
    return 1 <= len(text) <= LONGEST_NAME and all(["a" <= sign <= "z" for sign in text])


def names_in(term):
    """Tell the term's names in the order in which they stand, each once."""
    found = {}
    _note_names(term, found)
    return list(found)


def _note_names(term, found):
    # The names are keys, because a dict keeps each once, in the order of its first standing.
    kind = term[0]
    if kind == "name":
        found[term[1]] = True
    elif kind != "num":
        _note_names(term[1], found)
        _note_names(term[2], found)


def worth(term, cells):
    """Tell the term's number, from 0 to 1000002; a name that isn't in the cells is worth 0."""
    kind = term[0]
    if kind == "num":
        return term[1] % RESTS_OF
    if kind == "name":
        return cells.get(term[1], 0) % RESTS_OF
    one = worth(term[1], cells)
    other = worth(term[2], cells)
    if kind == "sum":
        return (one + other) % RESTS_OF
    if kind == "less":
        return (one - other) % RESTS_OF
    return one * other % RESTS_OF
