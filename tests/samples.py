"""Short words for terms and rows, programs made by a seed, and what the tests ask alike."""

import random
import unittest

from safeturn.errors import Clash
from safeturn.runs import run

NAMES = ("a", "b", "c", "d")
ONE = ("num", 1)
NOTHING = ("num", 0)
# Texts that are no names: too short, too long, and with signs that aren't letters a to z.
NO_NAMES = ("", "abcdefghi", "A", "aB", "Abc", "a1", "1", " ", "a b", "a ", " a", "a_b", "_", "a-b", "a.b", "a\n",
            "\u00e4", "a\u00df", "\u0430", "`", "{")


def num(number):
    return ("num", number)


def name(text):
    return ("name", text)


def names(*texts):
    return tuple(name(text) for text in texts)


def plus(one, other):
    return ("sum", one, other)


def put_to(text, term=ONE):
    return ("set", text, term)


def tell(term):
    return ("tell", term)


def call(target, function, *terms):
    return ("call", target, function, terms)


def when(term, *rows):
    return ("when", term, rows)


def again(count, *rows):
    return ("again", count, rows)


def function(text, parameters, rows, result=NOTHING):
    return (text, tuple(parameters), tuple(rows), result)


def main(*rows, parameters=(), result=NOTHING):
    return function("main", parameters, rows, result)


# A program with a row of each kind, rows within rows, and places that are none, a sort a line.
ROUND = (
    function("f", ("p",), (put_to("q", name("p")), tell(name("q"))), name("q")),
    main(
        put_to("a"),
        tell(name("a")),
        call("a", "f", name("b")),
        when(name("a"), again(2, tell(ONE), when(ONE, put_to("d"))), put_to("c")),
        when(name("b")),
        again(0),
        parameters=("b",),
        result=name("a"),
    ),
)
NO_PLACES = (
    (),
    (0,), (1,), (-1,), (7,),
    (2, 0), (-1, 0), (-2, 0), (9, 0), (-1, -1),
    (0, -1), (1, -1), (1, -2), (1, -6),
    (0, 3), (1, 7), (1, 100),
    (0, 0, 0), (1, 0, 0), (1, 1, 0), (1, 2, 0), (1, 0, -1), (0, 0, 1),
    (1, 3, -1), (1, 3, 3), (1, 3, -2), (1, 3, 0, 3), (1, 3, 0, -1), (1, 3, 0, 1, 2),
    (1, 3, 1, 0), (1, 3, 0, 0, 0), (1, 3, 0, 1, 0, 0), (1, 3, 0, 1, 0, 0, 0, 0),
    (1, 4, 1), (1, 4, -1), (1, 5, 1), (1, 4, 0, 0), (1, 5, 0, 0),
    (1, -1, 0), (1, 6, 0), (1, -3, 0), (1, 3, -2, 0), (2, 3, 0), (-1, 3, 0), (1, 3, 7, 0),
)
# Places behind a tuple's last row: of a row to fold ahead of it they are some, else none.
PLACES_BEHIND = ((0, 2), (1, 6), (1, 3, 2), (1, 3, 0, 2), (1, 3, 0, 1, 1), (1, 4, 0), (1, 5, 0))
PLACES = {
    (0, 0): ROUND[0][2][0],
    (0, 1): ROUND[0][2][1],
    (1, 0): ROUND[1][2][0],
    (1, 1): ROUND[1][2][1],
    (1, 2): ROUND[1][2][2],
    (1, 3): ROUND[1][2][3],
    (1, 3, 0): again(2, tell(ONE), when(ONE, put_to("d"))),
    (1, 3, 0, 0): tell(ONE),
    (1, 3, 0, 1): when(ONE, put_to("d")),
    (1, 3, 0, 1, 0): put_to("d"),
    (1, 3, 1): put_to("c"),
    (1, 4): when(name("b")),
    (1, 5): again(0),
}


class TurnCase(unittest.TestCase):
    """Tests of changes: how they refuse, and whether they mean the same."""

    def assert_refused(self, refusal, ask, *handed_in):
        with self.assertRaises(refusal) as held:
            ask(*handed_in)
        self.assertIs(held.exception.__class__, refusal)
        return held.exception

    def assert_clash(self, one, other, ask, *handed_in):
        clash = self.assert_refused(Clash, ask, *handed_in)
        self.assertEqual((clash.one, clash.other), (one, other))

    def assert_same_told(self, one, other, many):
        """Both programs tell the same, for several inputs of so many numbers."""
        for first in (0, 1, 2, 7, -3, 10 ** 12):
            inputs = [first + 3 * step for step in range(many)]
            self.assertEqual(run(one, inputs), run(other, inputs), inputs)


def all_places(program):
    """Each row's place, by a walk of its own, so that the package's is not asked about itself."""
    found = []
    waiting = [((number,), function[2]) for number, function in enumerate(program)]
    while waiting:
        around, rows = waiting.pop()
        for number, row in enumerate(rows):
            found.append(around + (number,))
            if row[0] in ("when", "again"):
                waiting.append((around + (number,), row[2]))
    return sorted(found)


class Maker:
    """Makes programs that keep to the form, the same ones for the same seed."""

    def __init__(self, seed):
        self.random = random.Random(seed)

    def term(self, depth=2):
        kind = self.random.choice(("num", "name", "name", "name", "sum", "less", "times"))
        if kind == "num" or depth == 0:
            return ("num", self.random.choice((0, 1, 2, 3, 1000002)))
        if kind == "name":
            return ("name", self.random.choice(NAMES))
        return (kind, self.term(depth - 1), self.term(depth - 1))

    def row(self, ahead, depth):
        kinds = ["set", "set", "set", "tell"] + ["call", "call"] * bool(ahead) + ["when", "again"] * bool(depth)
        kind = self.random.choice(kinds)
        if kind == "set":
            return ("set", self.random.choice(NAMES), self.term())
        if kind == "tell":
            return ("tell", self.term())
        if kind == "call":
            return self.call(ahead)
        if kind == "when":
            return ("when", self.term(1), self.rows(ahead, depth - 1))
        return ("again", self.random.choice((0, 1, 2, 2, 3)), self.rows(ahead, depth - 1))

    def call(self, ahead):
        called = self.random.choice(ahead)
        terms = tuple(
            ("name", parameter) if self.random.random() < 0.5 else self.term(1) for parameter in called[1]
        )
        return ("call", self.random.choice(NAMES + (None,)), called[0], terms)

    def rows(self, ahead, depth):
        return tuple(self.row(ahead, depth) for _ in range(self.random.randrange(4)))

    def program(self, depth=2):
        functions = []
        for text in ("f", "g", "main")[self.random.randrange(3):]:
            parameters = tuple(self.random.sample(NAMES, self.random.randrange(4)))
            functions.append((text, parameters, self.rows(functions, depth), self.term(1)))
        return tuple(functions)

    def inputs(self, program):
        return [self.random.choice((0, 1, 2, 5, -1, 10 ** 9)) for _ in program[-1][1]]
