"""Point 16: rows are drawn out into a function."""

import copy
import unittest

from safeturn.errors import Clash, NoName, NoPlace, Taken
from safeturn.puts import drawn, folded, put
from samples import (
    NO_NAMES, NO_PLACES, NOTHING, ONE, PLACES, PLACES_BEHIND, ROUND, TurnCase,
    again, call, function, main, name, names, num, plus, put_to, tell, when,
)

A, B, C, D = names("a", "b", "c", "d")


class DrawCase(TurnCase):
    def assert_drawn(self, program, place, many, outcome, at):
        """Drawn out it is that program and call, means the same, and is turned round by put."""
        before = copy.deepcopy(program)
        done = drawn(program, place, many, "new")
        self.assertIsInstance(done, tuple)
        self.assertEqual(done, (outcome, at))
        again_first, told = put(*done)
        self.assertEqual(again_first, program)
        self.assertEqual(folded(again_first, *told), outcome)
        self.assert_same_told(program, outcome, len(program[-1][1]))
        self.assertEqual(program, before)

    def assert_one_of(self, pairs, program, place, many):
        clash = self.assert_refused(Clash, drawn, program, place, many, "new")
        self.assertIn((clash.one, clash.other), pairs + [(other, one) for one, other in pairs])


class TestOutcome(DrawCase):
    def test_one_row_with_a_result_name(self):
        program = (main(tell(A), put_to("c", plus(B, A)), tell(C), parameters=("a", "b")),)
        new = function("new", ("a", "b"), (put_to("c", plus(B, A)),), C)
        outcome = (new, main(tell(A), call("c", "new", A, B), tell(C), parameters=("a", "b")))
        self.assert_drawn(program, (0, 1), 1, outcome, (1, 1))

    def test_without_a_result_name(self):
        program = (main(tell(A), tell(plus(B, A)), put_to("c"), put_to("c", B), tell(C), parameters=("a", "b")),)
        new = function("new", ("a", "b"), (tell(plus(B, A)), put_to("c")), NOTHING)
        rows = (tell(A), call(None, "new", A, B), put_to("c", B), tell(C))
        self.assert_drawn(program, (0, 1), 2, (new, main(*rows, parameters=("a", "b"))), (1, 1))

    def test_without_any_name(self):
        program = (main(tell(ONE)),)
        self.assert_drawn(program, (0, 0), 1, (function("new", (), (tell(ONE),), NOTHING), main(call(None, "new"))), (1, 0))

    def test_several_rows(self):
        rows = (put_to("b", A), tell(B), put_to("d", plus(B, C)), when(D, tell(ONE)))
        program = (main(tell(ONE), *rows, tell(D), parameters=("a", "c")),)
        new = function("new", ("a", "c"), rows, D)
        outcome = (new, main(tell(ONE), call("d", "new", A, C), tell(D), parameters=("a", "c")))
        self.assert_drawn(program, (0, 1), 4, outcome, (1, 1))

    def test_the_whole_of_the_rows(self):
        rows = (tell(A), put_to("a", B))
        program = (main(*rows, parameters=("b",), result=A),)
        new = function("new", ("a", "b"), rows, A)
        self.assert_drawn(program, (0, 0), 2, (new, main(call("a", "new", A, B), parameters=("b",), result=A)), (1, 0))

    def test_parameters_rise(self):
        program = (main(tell(D), tell(plus(C, A)), tell(B), parameters=("d", "b")),)
        new = function("new", ("a", "b", "c", "d"), program[0][2], NOTHING)
        outcome = (new, main(call(None, "new", A, B, C, D), parameters=("d", "b")))
        self.assert_drawn(program, (0, 0), 3, outcome, (1, 0))

    def test_a_name_that_is_set_ahead_within_is_no_parameter(self):
        rows = (put_to("a", B), tell(A), again(2, put_to("c"), tell(C)))
        new = function("new", ("b",), rows, NOTHING)
        self.assert_drawn((main(*rows),), (0, 0), 3, (new, main(call(None, "new", B))), (1, 0))

    def test_a_name_that_an_again_of_no_times_reads_is_no_parameter(self):
        rows = (again(0, tell(A)),)
        self.assert_drawn((main(*rows),), (0, 0), 1, (function("new", (), rows), main(call(None, "new"))), (1, 0))

    def test_a_result_name_that_is_not_surely_set(self):
        for row in (when(B, put_to("a")), again(0, put_to("a")), again(2, when(B, put_to("a")))):
            parameters = ("a",) if row[0] == "again" and row[1] == 0 else ("a", "b")
            program = (main(tell(ONE), row, parameters=("a", "b"), result=A),)
            new = function("new", parameters, (row,), A)
            rows = (tell(ONE), call("a", "new", *names(*parameters)))
            self.assert_drawn(program, (0, 1), 1, (new, main(*rows, parameters=("a", "b"), result=A)), (1, 1))

    def test_a_result_name_that_is_surely_set_within(self):
        row = again(2, put_to("b"), when(B, put_to("a")), put_to("a", C))
        program = (main(row, parameters=("c",), result=A),)
        new = function("new", ("c",), (row,), A)
        self.assert_drawn(program, (0, 0), 1, (new, main(call("a", "new", C), parameters=("c",), result=A)), (1, 0))

    def test_a_result_name_that_is_first_read_too(self):
        row = put_to("a", plus(A, ONE))
        program = (main(row, parameters=("a",), result=A),)
        new = function("new", ("a",), (row,), A)
        self.assert_drawn(program, (0, 0), 1, (new, main(call("a", "new", A), parameters=("a",), result=A)), (1, 0))

    def test_right_ahead_of_the_function_that_has_them(self):
        e, last = function("e", ("p",), (), name("p")), function("last", (), (call("a", "main", num(6)),), A)
        program = (e, main(call("b", "e", A), tell(B), parameters=("a",), result=B), last)
        new = function("new", ("a",), (call("b", "e", A),), B)
        outcome = (e, new, main(call("b", "new", A), tell(B), parameters=("a",), result=B), last)
        self.assert_drawn(program, (1, 0), 1, outcome, (2, 0))

    def test_rows_within_rows(self):
        program = (main(tell(ONE), when(B, again(2, tell(B), put_to("a"), put_to("c", A)), tell(C)), parameters=("b",)),)
        new = function("new", (), (put_to("a"), put_to("c", A)), C)
        rows = (tell(ONE), when(B, again(2, tell(B), call("c", "new")), tell(C)))
        self.assert_drawn(program, (0, 1, 0, 1), 2, (new, main(*rows, parameters=("b",))), (1, 1, 0, 1))

    def test_a_row_with_rows(self):
        program = (main(tell(ONE), when(B, again(2, tell(B)), put_to("a")), parameters=("b",), result=A),)
        new = function("new", ("a", "b"), (program[0][2][1],), A)
        rows = (tell(ONE), call("a", "new", A, B))
        self.assert_drawn(program, (0, 1), 1, (new, main(*rows, parameters=("b",), result=A)), (1, 1))

    def test_a_next_time_needs_it(self):
        row = when(B, put_to("a", plus(A, ONE)))
        for count in (2, 3):
            program = (main(again(count, row, tell(ONE)), parameters=("b",)),)
            new = function("new", ("a", "b"), (row,), A)
            outcome = (new, main(again(count, call("a", "new", A, B), tell(ONE)), parameters=("b",)))
            self.assert_drawn(program, (0, 0, 0), 1, outcome, (1, 0, 0))
        program = (main(again(1, row, tell(ONE)), parameters=("b",)),)
        new = function("new", ("a", "b"), (row,), NOTHING)
        outcome = (new, main(again(1, call(None, "new", A, B), tell(ONE)), parameters=("b",)))
        self.assert_drawn(program, (0, 0, 0), 1, outcome, (1, 0, 0))

    def test_needed_is_asked_behind_the_last_row(self):
        program = (main(put_to("a", B), put_to("c", A), tell(C), parameters=("b",)),)
        new = function("new", ("b",), (put_to("a", B), put_to("c", A)), C)
        self.assert_drawn(program, (0, 0), 2, (new, main(call("c", "new", B), tell(C), parameters=("b",))), (1, 0))

    def test_a_name_set_by_two_rows(self):
        rows = (put_to("a", B), when(B, put_to("a", plus(A, ONE))))
        program = (main(*rows, tell(A), parameters=("b",)),)
        new = function("new", ("b",), rows, A)
        self.assert_drawn(program, (0, 0), 2, (new, main(call("a", "new", B), tell(A), parameters=("b",))), (1, 0))

    def test_names_of_the_new_function(self):
        for text in ("a", "zz", "abcdefgh", "tell", "call"):
            program, place = drawn((main(tell(A)),), (0, 0), 1, text)
            self.assertEqual(program, (function(text, ("a",), (tell(A),)), main(call(None, text, A))))
            self.assertEqual(put(program, place)[0], (main(tell(A)),))

    def test_each_row_of_a_program_of_each_kind(self):
        for place in PLACES:
            program, at = drawn(ROUND, place, 1, "new")
            self.assertEqual(put(program, at)[0], ROUND)
            self.assert_same_told(ROUND, program, 1)


class TestRefusals(DrawCase):
    def test_places_that_are_none(self):
        for place in NO_PLACES + PLACES_BEHIND:
            for many in (0, 1, 2):
                self.assert_refused(NoPlace, drawn, ROUND, place, many, "new")

    def test_not_so_many_rows(self):
        for place, many in (((0, 0), 3), ((0, 1), 2), ((1, 0), 7), ((1, 5), 2), ((1, 3, 0), 3), ((1, 3, 0, 1, 0), 2)):
            self.assert_refused(NoPlace, drawn, ROUND, place, many, "new")

    def test_many_below_one(self):
        for many in (0, -1, -5):
            self.assert_refused(NoPlace, drawn, ROUND, (1, 0), many, "new")

    def test_texts_that_are_no_names(self):
        for text in NO_NAMES:
            self.assert_refused(NoName, drawn, ROUND, (1, 0), 1, text)

    def test_a_name_that_a_function_has(self):
        program = ROUND + (function("last", (), ()),)
        for text in ("f", "main", "last"):
            self.assert_refused(Taken, drawn, program, (1, 0), 1, text)

    def test_no_place_goes_first(self):
        for text in ("", "f"):
            self.assert_refused(NoPlace, drawn, ROUND, (1, 6), 1, text)
            self.assert_refused(NoPlace, drawn, ROUND, (1, 0), 0, text)
            self.assert_refused(NoPlace, drawn, ROUND, (1, 0), 7, text)

    def test_no_name_goes_ahead_of_taken_and_clash(self):
        program = (function("toolonganame", (), ()), main(put_to("a"), put_to("b"), result=plus(A, B)))
        self.assert_refused(NoName, drawn, program, (1, 0), 2, "toolonganame")
        self.assert_refused(NoName, drawn, program, (1, 0), 2, "")

    def test_taken_goes_ahead_of_clash(self):
        program = (main(put_to("a"), put_to("b"), result=plus(A, B)),)
        self.assert_refused(Taken, drawn, program, (0, 0), 2, "main")
        self.assert_refused(Clash, drawn, program, (0, 0), 2, "new")


class TestClash(DrawCase):
    def test_two_rows_set_two_needed_names(self):
        program = (main(tell(ONE), put_to("b"), tell(B), put_to("a"), tell(plus(A, B))),)
        self.assert_one_of([((0, 1), (0, 3))], program, (0, 1), 3)

    def test_rows_within_set_them(self):
        program = (main(tell(ONE), when(C, tell(ONE), put_to("b"), again(0, put_to("a"))), result=plus(A, B)),)
        self.assert_one_of([((0, 1, 1), (0, 1, 2, 0))], program, (0, 1), 1)
        self.assert_one_of([((0, 1, 1), (0, 1, 2, 0))], program, (0, 1, 1), 2)

    def test_calls_set_them(self):
        f = function("f", (), ())
        program = (f, main(call("a", "f"), call(None, "f"), call("b", "f"), tell(A), tell(B)))
        self.assert_one_of([((1, 0), (1, 2))], program, (1, 0), 3)

    def test_one_is_needed_by_a_next_time_alone(self):
        program = (main(again(2, tell(A), put_to("a"), put_to("b")), tell(B)),)
        self.assert_one_of([((0, 0, 1), (0, 0, 2))], program, (0, 0, 1), 2)

    def test_several_pairs(self):
        program = (main(put_to("a"), put_to("b"), put_to("a"), put_to("c"), result=plus(A, plus(B, C))),)
        pairs = [((0, 0), (0, 1)), ((0, 0), (0, 3)), ((0, 2), (0, 1)), ((0, 2), (0, 3)), ((0, 1), (0, 3))]
        self.assert_one_of(pairs, program, (0, 0), 4)

    def test_a_row_that_sets_a_name_not_needed_is_not_told(self):
        program = (main(put_to("d"), put_to("a"), put_to("d"), put_to("b"), put_to("d"), result=plus(A, B)),)
        self.assert_one_of([((0, 1), (0, 3))], program, (0, 0), 5)


if __name__ == "__main__":
    unittest.main()
