"""Runs: a program is gone through, and what it tells is listed."""

from safeturn.terms import RESTS_OF, worth


class Visit:
    """One going through a function: its cells, the rows still to be gone through, and its end."""

    def __init__(self, function, numbers, target):
        parameters, rows, result = function[1:]
        self.cells = {name: number % RESTS_OF for name, number in zip(parameters, numbers)}
        # The next row stands last, where it is taken off a list at once.
        self.ahead = list(rows[::-1])
        self.result = result
        self.target = target


def run(program, inputs):
    """Tell the list of all that the last function tells with these inputs, its result behind it."""
    functions = {function[0]: function for function in program}
    told = []
    # A list of visits instead of recursion: functions may call one another over any number of them.
    visits = [Visit(program[-1], inputs, None)]
    while visits:
        visit = visits[-1]
        if not visit.ahead:
            visits.pop()
            _end(visit, visits, told)
            continue
        row = visit.ahead.pop()
        if row[0] == "call":
            numbers = [worth(term, visit.cells) for term in row[3]]
            visits.append(Visit(functions[row[2]], numbers, row[1]))
        else:
            _go_through(row, visit, told)
    return told


def _end(visit, around, told):
    # Only the last function's result is told; that of a called one is its caller's, the visit around.
    number = worth(visit.result, visit.cells)
    if not around:
        told.append(number)
    elif visit.target is not None:
        caller = around[-1]
        caller.cells[visit.target] = number


def _go_through(row, visit, told):
    kind = row[0]
    if kind == "set":
        visit.cells[row[1]] = worth(row[2], visit.cells)
    elif kind == "tell":
        told.append(worth(row[1], visit.cells))
    elif kind == "when":
        if worth(row[1], visit.cells) != 0:
            visit.ahead.extend(row[2][::-1])
    elif row[1] > 0:
        visit.ahead.append(("again", row[1] - 1, row[2]))
        visit.ahead.extend(row[2][::-1])
