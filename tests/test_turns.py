"""Points 11 and 12: names that are other ones, and rows that are exchanged."""

import copy
import unittest

from safeturn.errors import NoName, NoPlace
from safeturn.turns import renamed, swapped
from samples import (
    NO_NAMES, NO_PLACES, NOTHING, ONE, PLACES, PLACES_BEHIND, ROUND, TurnCase,
    again, call, function, main, name, names, num, plus, put_to, tell, when,
)

A, B, C, D = names("a", "b", "c", "d")
SILENT = function("still", ("a",), (put_to("a", plus(A, ONE)),), A)
LOUD = function("loud", ("a",), (again(1, tell(A)),), A)
FAR = function("far", (), (call("x", "loud", ONE),), NOTHING)


class TestRenamed(TurnCase):
    def assert_renamed(self, one, other, old="a", new="z"):
        """Renaming turns the one function into the other, whatever stands beside it, and back."""
        first = (function("f", ("a", "z"), (put_to("a", name("z")),), A), one)
        second = (first[0], other)
        self.assertEqual(renamed(first, 1, old, new), second)
        self.assertEqual(renamed(second, 1, new, old), first)
        self.assertEqual(renamed((one,) + SILENT_LAST, 0, old, new), (other,) + SILENT_LAST)

    def test_in_parameters(self):
        self.assert_renamed(main(parameters=("b", "a", "c")), main(parameters=("b", "z", "c")))

    def test_in_a_set(self):
        self.assert_renamed(main(put_to("a", B)), main(put_to("z", B)))
        self.assert_renamed(main(put_to("b", plus(A, B))), main(put_to("b", plus(name("z"), B))))
        self.assert_renamed(main(put_to("a", A)), main(put_to("z", name("z"))))

    def test_in_a_tell(self):
        self.assert_renamed(main(tell(A), tell(B)), main(tell(name("z")), tell(B)))

    def test_in_each_kind_of_term(self):
        for kind in ("sum", "less", "times"):
            one = (kind, (kind, A, num(4)), (kind, B, A))
            other = (kind, (kind, name("z"), num(4)), (kind, B, name("z")))
            self.assert_renamed(main(tell(one)), main(tell(other)))

    def test_in_a_call(self):
        self.assert_renamed(
            main(call("a", "f", B, ONE), call("b", "f", A, plus(ONE, A)), call(None, "f", A, B)),
            main(call("z", "f", B, ONE), call("b", "f", name("z"), plus(ONE, name("z"))), call(None, "f", name("z"), B)),
        )

    def test_not_the_function_of_a_call_nor_of_its_own(self):
        first = (function("a", (), (), NOTHING), function("b", ("a",), (call("a", "a"),), A))
        second = (first[0], function("b", ("c",), (call("c", "a"),), C))
        self.assertEqual(renamed(first, 1, "a", "c"), second)
        third = (first[0], function("b", ("b",), (call("b", "a"),), B))
        self.assertEqual(renamed(first, 1, "a", "b"), third)

    def test_a_name_that_reads_as_a_kind(self):
        first = (main(put_to("a", ("sum", A, ONE)), tell(A), when(A), call("a", "tell", A), again(2)),)
        for word in ("set", "sum", "name", "num", "tell", "when", "call", "again"):
            second = renamed(first, 0, "a", word)
            w = name(word)
            self.assertEqual(second, (main(put_to(word, plus(w, ONE)), tell(w), when(w), call(word, "tell", w), again(2)),))
            self.assertEqual(renamed(second, 0, word, "a"), first)

    def test_in_rows_within_rows(self):
        self.assert_renamed(
            main(when(A, again(2, when(B, put_to("a"), tell(A)), tell(A)), put_to("b", A))),
            main(when(name("z"), again(2, when(B, put_to("z"), tell(name("z"))), tell(name("z"))), put_to("b", name("z")))),
        )

    def test_in_the_result(self):
        self.assert_renamed(main(result=plus(B, A)), main(result=plus(B, name("z"))))

    def test_of_other_functions_nothing(self):
        program = (SILENT, main(put_to("a"), result=A))
        self.assertEqual(renamed(program, 0, "a", "b")[1], program[1])
        self.assertEqual(renamed(program, 1, "a", "b")[0], program[0])

    def test_the_new_name_in_another_function_is_no_clash(self):
        program = (SILENT, main(tell(B)))
        self.assertEqual(renamed(program, 1, "b", "a"), (SILENT, main(tell(A))))

    def test_the_same_name_is_no_change(self):
        for old in ("b", "q", "p"):
            program = (function("f", ("p",), (put_to("q", B),), NOTHING),)
            self.assertEqual(renamed(program, 0, old, old), program)

    def test_the_shortest_and_the_longest_new_name(self):
        for new in ("q", "abcdefgh", "zzzzzzzz", "az"):
            self.assertEqual(renamed((main(tell(A)),), 0, "a", new), (main(tell(name(new))),))

    def test_no_function_of_that_number(self):
        program = (SILENT, main(put_to("a"), result=A))
        for number in (-1, -2, 2, 3, 100, 10 ** 5000):
            self.assert_refused(NoPlace, renamed, program, number, "a", "z")
            self.assert_refused(NoPlace, renamed, program, number, "q", "a")
            self.assert_refused(NoPlace, renamed, program, number, "q", "")

    def test_an_old_name_that_does_not_stand_in_the_function(self):
        program = (SILENT, function("g", ("b",), (call("b", "still", B),), B))
        for old in ("a", "still", "g", "set", "", "B"):
            self.assert_refused(NoName, renamed, program, 1, old, "z")
            self.assert_refused(NoName, renamed, program, 1, old, "b")
            self.assert_refused(NoName, renamed, program, 1, old, old)

    def test_new_texts_that_are_no_names(self):
        for new in NO_NAMES:
            self.assert_refused(NoName, renamed, ROUND, 1, "a", new)
            self.assert_refused(NoName, renamed, ROUND, 1, "notthere", new)

    def test_no_name_goes_ahead_of_a_clash(self):
        program = (main(put_to("abcdefghi"), tell(A)),)
        self.assert_refused(NoName, renamed, program, 0, "a", "abcdefghi")
        self.assert_refused(NoName, renamed, program, 0, "abcdefghi", "abcdefghi")

    def test_a_clash_tells_the_first_place_of_both(self):
        rows = (
            tell(ONE),
            when(A, tell(D), put_to("e", B)),
            put_to("c", plus(B, D)),
            call("g", "still", name("h")),
            again(2, when(ONE, put_to("i"))),
        )
        program = (SILENT, function("f", ("p", "q"), rows, plus(name("r"), A)))
        first = {
            "p": (1, -1), "q": (1, -1), "a": (1, 1), "d": (1, 1, 0), "e": (1, 1, 1), "b": (1, 1, 1),
            "c": (1, 2), "g": (1, 3), "h": (1, 3), "i": (1, 4, 0, 0), "r": (1, 5),
        }
        for old, one in first.items():
            for new, other in first.items():
                if old != new:
                    self.assert_clash(one, other, renamed, program, 1, old, new)

    def test_a_parameter_that_stands_in_rows_and_result_too(self):
        program = (main(tell(B), put_to("a", B), parameters=("a",), result=A),)
        self.assert_clash((0, -1), (0, 0), renamed, program, 0, "a", "b")
        self.assert_clash((0, 0), (0, -1), renamed, program, 0, "b", "a")

    def test_a_set_name_within_ahead_of_the_term_behind(self):
        program = (main(again(0, put_to("a")), tell(A), tell(B)),)
        self.assert_clash((0, 0, 0), (0, 2), renamed, program, 0, "a", "b")

    def test_a_clash_in_the_result_of_a_function_without_rows(self):
        self.assert_clash((0, 0), (0, -1), renamed, (main(parameters=("b",), result=A),), 0, "a", "b")

    def test_the_same_is_told_and_what_is_handed_in_stays(self):
        program = (SILENT, main(again(3, call("a", "still", A), tell(A)), parameters=("a",), result=A))
        before = copy.deepcopy(program)
        self.assert_same_told(program, renamed(program, 1, "a", "q"), 1)
        self.assert_same_told(program, renamed(program, 0, "a", "q"), 1)
        self.assertEqual(program, before)

    def test_sixty_deep(self):
        one, other = tell(A), tell(B)
        for _ in range(60):
            one, other = when(A, one), when(B, other)
        self.assertEqual(renamed((main(one),), 0, "a", "b"), (main(other),))


SILENT_LAST = (function("last", ("z",), (), name("z")),)


class TestSwapped(TurnCase):
    def assert_swapped(self, one, other):
        """Both rows, by whatever functions, are exchanged in each sort of tuple, and back again."""
        functions = (SILENT, LOUD, FAR)
        for first, second in ((one, other), (other, one)):
            for around in (lambda *rows: rows, lambda *rows: (when(ONE, *rows),), lambda *rows: (again(2, *rows),)):
                place = (3, 1) if len(around(1, 2, 3)) > 1 else (3, 0, 1)
                program = functions + (main(*around(tell(D), first, second)),)
                changed = functions + (main(*around(tell(D), second, first)),)
                self.assertEqual(swapped(program, place), changed)
                self.assertEqual(swapped(changed, place), program)
                self.assert_same_told(program, changed, 0)

    def assert_bound(self, one, other):
        functions = (SILENT, LOUD, FAR)
        for first, second in ((one, other), (other, one)):
            program = functions + (main(put_to("z"), first, second, tell(D)),)
            self.assert_clash((3, 1), (3, 2), swapped, program, (3, 1))
            program = functions + (main(put_to("z"), when(D, first, second)),)
            self.assert_clash((3, 1, 0), (3, 1, 1), swapped, program, (3, 1, 0))

    def test_rows_that_have_nothing_in_common(self):
        self.assert_swapped(put_to("a", C), put_to("b", D))
        self.assert_swapped(put_to("a"), tell(B))
        self.assert_swapped(tell(A), call("b", "still", C))
        self.assert_swapped(when(A, tell(B)), again(2, put_to("c", D)))

    def test_rows_that_read_the_same(self):
        self.assert_swapped(put_to("a", C), put_to("b", C))
        self.assert_swapped(tell(C), when(C, put_to("a", C)))

    def test_one_sets_what_the_other_reads(self):
        self.assert_bound(put_to("a"), put_to("b", A))
        self.assert_bound(put_to("a"), tell(plus(B, A)))
        self.assert_bound(put_to("a"), call("b", "still", A))
        self.assert_bound(call("a", "still", C), put_to("b", A))
        self.assert_bound(put_to("a"), when(A, tell(B)))
        self.assert_bound(put_to("a"), again(2, when(ONE, tell(A))))
        self.assert_bound(again(2, when(ONE, call("a", "still", ONE))), tell(A))
        self.assert_bound(again(0, put_to("a")), again(0, tell(A)))

    def test_one_sets_what_the_other_sets(self):
        self.assert_bound(put_to("a"), put_to("a", B))
        self.assert_bound(put_to("a"), call("a", "still", B))
        self.assert_bound(put_to("a"), when(B, put_to("a")))
        self.assert_bound(again(1, call("a", "still", B)), when(B, put_to("a")))

    def test_a_row_may_read_what_it_sets_itself(self):
        self.assert_swapped(put_to("a", A), put_to("b", B))
        self.assert_swapped(again(3, put_to("a", plus(A, ONE)), tell(A)), put_to("b", B))

    def test_both_tell(self):
        self.assert_bound(tell(A), tell(B))
        self.assert_bound(tell(ONE), call("a", "loud", ONE))
        self.assert_bound(call("a", "loud", ONE), call("b", "loud", ONE))
        self.assert_bound(tell(ONE), call(None, "far"))
        self.assert_bound(tell(ONE), when(B, again(1, tell(C))))
        self.assert_bound(again(2, call("a", "far")), when(ONE, call("b", "loud", ONE)))

    def test_two_alike_that_tell(self):
        self.assert_bound(tell(ONE), tell(ONE))

    def test_one_tells(self):
        self.assert_swapped(call("a", "loud", C), call("b", "still", C))
        self.assert_swapped(call(None, "far"), put_to("b"))
        self.assert_swapped(call(None, "far"), call(None, "still", ONE))

    def test_the_names_of_a_called_function_are_its_own(self):
        self.assert_swapped(call("c", "still", D), put_to("a", B))
        self.assert_swapped(call("c", "still", D), tell(A))

    def test_two_alike_that_do_not_tell(self):
        self.assert_swapped(call(None, "still", ONE), call(None, "still", ONE))
        self.assert_swapped(when(A), when(A))

    def test_places_that_are_none(self):
        for place in NO_PLACES + PLACES_BEHIND:
            self.assert_refused(NoPlace, swapped, ROUND, place)

    def test_the_last_row_of_a_tuple(self):
        for place in ((0, 1), (1, 5), (1, 3, 1), (1, 3, 0, 1), (1, 3, 0, 1, 0)):
            self.assertIn(place, PLACES)
            self.assert_refused(NoPlace, swapped, ROUND, place)

    def test_the_next_row_is_that_of_the_same_tuple(self):
        inner = (put_to("a"), put_to("b"))
        program = (main(when(ONE, *inner), put_to("c")),)
        self.assertEqual(swapped(program, (0, 0, 0)), (main(when(ONE, *inner[::-1]), put_to("c")),))
        self.assertEqual(swapped(program, (0, 0)), (main(put_to("c"), when(ONE, *inner)),))

    def test_what_is_handed_in_stays(self):
        program = (SILENT, main(put_to("a"), call("b", "still", C), again(2, put_to("c"), put_to("d"))))
        before = copy.deepcopy(program)
        self.assertEqual(swapped(swapped(program, (1, 0)), (1, 0)), program)
        swapped(program, (1, 2, 0))
        self.assertEqual(program, before)


if __name__ == "__main__":
    unittest.main()
