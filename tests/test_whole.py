"""Point 1, over the whole program: changes one behind the other mean the same, and are turned round."""

import collections
import copy
import os
import pathlib
import random
import subprocess
import sys
import unittest

from safeturn.errors import Clash, NoCall, NoName, NoPlace, Taken, TurnError, Unlike
from safeturn.places import needed, row_at
from safeturn.puts import drawn, folded, put
from safeturn.rows import first_read
from safeturn.runs import run
from safeturn.turns import renamed, swapped
from samples import NAMES, NOTHING, Maker, TurnCase, all_places, call, function, main, name, plus, put_to, tell, when

MAY_REFUSE = {
    "renamed": (NoName, Clash),
    "swapped": (NoPlace, Clash),
    "put": (NoCall, Clash),
    "folded": (NoPlace, Taken, NoCall, Clash, Unlike),
    "drawn": (NoPlace, Clash),
}
NEW_NAMES = NAMES + ("e", "total", "abcdefgh")


class Changes:
    """Changes of a program by a seed: each told with a way back, or refused."""

    def __init__(self, seed):
        self.random = random.Random(seed)
        self.folds = []
        self.made = 0

    def fresh(self):
        self.made += 1
        return "new" + "abcdefghijklmnopqrstuvwxyz"[self.made % 26]

    def change(self, kind, program):
        """Tell the changed program and what makes it the one ahead again."""
        return getattr(self, "by_" + kind)(program)

    def by_renamed(self, program):
        number = self.random.randrange(len(program))
        old, new = self.random.choice(NAMES), self.random.choice(NEW_NAMES)
        return renamed(program, number, old, new), lambda later: renamed(later, number, new, old)

    def by_swapped(self, program):
        place = self.random.choice(all_places(program))
        return swapped(program, place), lambda later: swapped(later, place)

    def by_put(self, program):
        places = all_places(program)
        calls = [place for place in places if row_at(program, place)[0] == "call"]
        place = self.random.choice(calls or places)
        changed, told = put(program, place)
        self.folds.append(told)
        return changed, lambda later: folded(later, *told)

    def by_drawn(self, program):
        place = self.random.choice(all_places(program))
        changed, at = drawn(program, place, self.random.choice((1, 1, 2, 3)), self.fresh())
        return changed, lambda later: put(later, at)[0]

    def by_folded(self, program):
        place, many, row, at, told = self.random.choice((self.known_fold, self.fold_of_rows))(program)
        changed = folded(program, place, many, row, at, told)
        call_place = place if told is None else (place[0] + 1,) + place[1:]
        return changed, lambda later: put(later, call_place)[0]

    def known_fold(self, program):
        return self.random.choice(self.folds) if self.folds else self.fold_of_rows(program)

    def fold_of_rows(self, program):
        place = self.random.choice(all_places(program))
        many = self.random.choice((0, 1, 1, 2))
        rows = tuple(row_at(program, place[:-1] + (place[-1] + step,)) for step in range(many))
        parameters = tuple(first_read(rows))
        text = self.fresh()
        row = call(None, text, *[name(parameter) for parameter in parameters])
        return place, many, row, place[0], function(text, parameters, rows)


class TestOneBehindTheOther(TurnCase):
    def go(self, seed, done):
        maker, changes = Maker(seed), Changes(seed)
        program = first = maker.program()
        inputs = [maker.inputs(first) for _ in range(4)]
        due = [run(first, list(numbers)) for numbers in inputs]
        ways_back = []
        for _ in range(24):
            kind = changes.random.choice(sorted(MAY_REFUSE))
            if not all_places(program) and kind != "renamed":
                continue
            before = copy.deepcopy(program)
            try:
                changed, back = changes.change(kind, program)
            except TurnError as refusal:
                self.assertIn(refusal.__class__, MAY_REFUSE[kind])
                done[kind, "refused"] += 1
                continue
            finally:
                self.assertEqual(program, before)
            self.assertEqual([run(changed, list(numbers)) for numbers in inputs], due, (seed, kind))
            ways_back.append((kind, back, program))
            program = changed
            done[kind, "done"] += 1
        for kind, back, ahead in reversed(ways_back):
            program = back(program)
            self.assertEqual(program, ahead, (seed, kind))
        self.assertEqual(program, first)

    def test_many_programs(self):
        done = collections.Counter()
        for seed in range(400):
            self.go(seed, done)
        # Without these the loop above might have asked nothing.
        for kind in MAY_REFUSE:
            self.assertGreater(done[kind, "done"], 100, done)
            self.assertGreater(done[kind, "refused"], 100, done)


class TestEveryPlace(TurnCase):
    """Each change at each place of a program is refused by name, or means the same and goes back."""

    def assert_safe(self, program, changed, back):
        self.assert_same_told(program, changed, len(program[-1][1]))
        self.assertEqual(back, program)

    def try_each_change(self, program, place):
        ways = (
            (lambda: swapped(program, place), lambda changed: (changed, swapped(changed, place))),
            (lambda: put(program, place), lambda pair: (pair[0], folded(pair[0], *pair[1]))),
            (lambda: drawn(program, place, 1, "new"), lambda pair: (pair[0], put(*pair)[0])),
            (lambda: drawn(program, place, 2, "new"), lambda pair: (pair[0], put(*pair)[0])),
        )
        for change, back in ways:
            try:
                made = change()
            except (Clash, NoCall, NoPlace):
                continue
            self.assert_safe(program, *back(made))

    def test_each_change_at_each_place(self):
        for seed in range(1000, 1150):
            program = Maker(seed).program()
            for place in all_places(program):
                self.try_each_change(program, place)

    def test_each_name_of_each_function(self):
        for seed in range(2000, 2040):
            program = Maker(seed).program()
            for number in range(len(program)):
                for old in NAMES:
                    for new in NAMES + ("z",):
                        try:
                            changed = renamed(program, number, old, new)
                        except (Clash, NoName):
                            continue
                        self.assert_safe(program, changed, renamed(changed, number, new, old))


class TestBeyondTheLimits(TurnCase):
    """Beyond a limit of numbers, lengths or depths no error is raised."""

    def test_rows_forty_deep(self):
        inner = (put_to("b", name("a")), tell(name("b")))
        row = call("c", "f", name("a"))
        rows, place = (row, tell(name("c"))), (1,)
        for level in range(40):
            rows = (when(name("a"), *rows),) if level % 2 else (("again", 1, rows),)
            place = place + (0,)
        place = place + (0,)
        program = (function("f", ("a",), inner, name("b")), main(*rows, parameters=("a",)))
        changed, told = put(program, place)
        self.assert_same_told(program, changed, 1)
        self.assertEqual(folded(changed, *told), program)
        pulled, at = drawn(program, place, 2, "new")
        self.assert_same_told(program, pulled, 1)
        self.assertEqual(put(pulled, at)[0], program)
        self.assertEqual(needed(program, place), ["c"])
        self.assertEqual(renamed(renamed(program, 1, "a", "z"), 1, "z", "a"), program)

    def test_terms_forty_deep_numbers_and_names_beyond(self):
        term = name("averylongname")
        for _ in range(40):
            term = plus(term, ("num", 5000000))
        program = (main(tell(term), put_to("another", term), tell(("num", -7)), parameters=("averylongname",)),)
        self.assertEqual(run(program, [1])[1:], [999996, 0])
        changed = swapped(program, (0, 0))
        self.assert_same_told(program, changed, 1)
        pulled, at = drawn(program, (0, 0), 2, "new")
        self.assertEqual(put(pulled, at)[0], program)
        self.assertEqual(renamed(program, 0, "averylongname", "a")[0][1], ("a",))

    def test_very_many_functions(self):
        functions = [function("f", (), (tell(("num", 1)),))]
        for number in range(1500):
            text = "f" + "".join("abcdefghij"[int(figure)] for figure in str(number))
            functions.append(function(text, (), (call(None, functions[-1][0]),)))
        program = tuple(functions) + (main(call(None, functions[-1][0]), put_to("a")),)
        changed = swapped(program, (1501, 0))
        self.assertEqual(run(changed, []), [1, 0])
        changed, told = put(program, (1501, 0))
        self.assertEqual(run(changed, []), [1, 0])
        self.assertEqual(folded(changed, *told), program)


class TestAlwaysAlike(unittest.TestCase):
    def test_another_process_tells_the_same(self):
        """No chance and no order of a set's members: a run with another hash seed tells the same."""
        here = pathlib.Path(__file__).resolve().parent
        lines = "\n".join([
            "import sys",
            f"sys.path[:0] = [{str(here)!r}, {str(here.parent)!r}]",
            "from samples import Maker, all_places",
            "from safeturn.errors import TurnError",
            "from safeturn.places import needed",
            "from safeturn.puts import drawn, put",
            "for seed in range(30):",
            "    program = Maker(seed).program()",
            "    for place in all_places(program):",
            "        print(needed(program, place))",
            "        for change in (put, lambda p, at: drawn(p, at, 2, 'new')):",
            "            try:",
            "                print(change(program, place))",
            "            except TurnError as refusal:",
            "                print(refusal)",
        ])
        told = []
        for seed in ("1", "2"):
            asked = [sys.executable, "-B", "-c", lines]
            around = {**os.environ, "PYTHONHASHSEED": seed}
            done = subprocess.run(asked, env=around, capture_output=True, text=True, check=True)
            told.append(done.stdout)
        self.assertEqual(told[0], told[1])
        self.assertIn("clash", told[0])


if __name__ == "__main__":
    unittest.main()
