"""Point 15: rows are folded into a call."""

import copy
import unittest

from safeturn.errors import Clash, NoCall, NoPlace, Taken, Unlike
from safeturn.puts import folded, put
from safeturn.turns import swapped
from samples import (
    NO_PLACES, NOTHING, ONE, PLACES_BEHIND, ROUND, TurnCase,
    again, call, function, main, name, names, num, plus, put_to, tell, when,
)

A, B, C, P, Q = names("a", "b", "c", "p", "q")
# Its call with 3 gives these rows where it is put in.
F = function("f", ("p",), (put_to("q", plus(P, ONE)), tell(Q)), Q)
ROW = call("a", "f", num(3))
ROWS = (put_to("p", num(3)), put_to("q", plus(P, ONE)), tell(Q), put_to("a", Q))
EMPTY = function("empty", (), ())
NO_ROW = call(None, "empty")


class FoldCase(TurnCase):
    def assert_folded(self, program, told, outcome):
        """Folded it is that program, means the same, and is turned round by put."""
        before = copy.deepcopy((program, told))
        self.assertEqual(folded(program, *told), outcome)
        place = told[0] if told[4] is None else (told[0][0] + 1,) + told[0][1:]
        self.assertEqual(put(outcome, place)[0], program)
        self.assert_same_told(program, outcome, len(program[-1][1]))
        self.assertEqual((program, told), before)


class TestOutcome(FoldCase):
    def test_with_a_function_of_the_program(self):
        program = (F, main(call("b", "f", B), *ROWS, tell(A), parameters=("b",)))
        outcome = (F, main(call("b", "f", B), ROW, tell(A), parameters=("b",)))
        self.assert_folded(program, ((1, 1), 4, ROW, 0, None), outcome)

    def test_the_number_is_left_aside_where_no_function_is_told(self):
        program = (F, main(call("b", "f", B), *ROWS, tell(A), parameters=("b",)))
        outcome = (F, main(call("b", "f", B), ROW, tell(A), parameters=("b",)))
        for at in (-1, 1, 2, 99):
            self.assert_folded(program, ((1, 1), 4, ROW, at, None), outcome)

    def test_with_a_function_told_at_each_number(self):
        e, g, last = EMPTY, function("g", ("p",), (tell(P),), P), function("last", (), (tell(num(8)),), ONE)
        program = (e, g, main(*ROWS, tell(A)), last)
        called = main(ROW, tell(A))
        self.assert_folded(program, ((2, 0), 4, ROW, 0, F), (F, e, g, called, last))
        self.assert_folded(program, ((2, 0), 4, ROW, 1, F), (e, F, g, called, last))
        self.assert_folded(program, ((2, 0), 4, ROW, 2, F), (e, g, F, called, last))
        for at in (-2, -1, 3, 4, 5, 10 ** 5000):
            self.assert_refused(NoPlace, folded, program, (2, 0), 4, ROW, at, F)

    def test_a_function_told_ahead_of_one_that_it_calls(self):
        """No refusal names it, so what comes of it still means the same, also by the change behind."""
        g = function("g", (), (tell(num(2)),))
        f = function("f", (), (call(None, "g"),))
        row = call(None, "f")
        program = (g, main(call(None, "g"), tell(ONE)))
        outcome = (f, g, main(row, tell(ONE)))
        self.assert_folded(program, ((1, 0), 1, row, 0, f), outcome)
        self.assert_clash((2, 0), (2, 1), swapped, outcome, (2, 0))

    def test_in_the_first_function(self):
        self.assert_folded((main(*ROWS, tell(A)),), ((0, 0), 4, ROW, 0, F), (F, main(ROW, tell(A))))
        for at in (-1, 1):
            self.assert_refused(NoPlace, folded, (main(*ROWS),), (0, 0), 4, ROW, at, F)

    def test_rows_within_rows(self):
        program = (main(tell(ONE), when(B, again(2, tell(B), *ROWS), tell(A)), parameters=("b",)),)
        outcome = (F, main(tell(ONE), when(B, again(2, tell(B), ROW), tell(A)), parameters=("b",)))
        self.assert_folded(program, ((0, 1, 0, 1), 4, ROW, 0, F), outcome)

    def test_no_row_ahead_of_a_row(self):
        program = (EMPTY, main(NO_ROW, tell(A), when(A, tell(B))))
        self.assert_folded(program, ((1, 1), 0, NO_ROW, 0, None), (EMPTY, main(NO_ROW, NO_ROW, *program[1][2][1:])))
        outcome = (EMPTY, main(NO_ROW, tell(A), when(A, NO_ROW, tell(B))))
        self.assert_folded(program, ((1, 2, 0), 0, NO_ROW, 0, None), outcome)

    def test_no_row_behind_the_last_one_of_a_tuple(self):
        program = (main(tell(A), when(A, tell(B))),)
        self.assert_folded(program, ((0, 2), 0, NO_ROW, 0, EMPTY), (EMPTY, main(*program[0][2], NO_ROW)))
        outcome = (EMPTY, main(tell(A), when(A, tell(B), NO_ROW)))
        self.assert_folded(program, ((0, 1, 1), 0, NO_ROW, 0, EMPTY), outcome)

    def test_no_row_in_an_empty_tuple(self):
        self.assert_folded((main(),), ((0, 0), 0, NO_ROW, 0, EMPTY), (EMPTY, main(NO_ROW)))
        self.assert_folded((main(when(A)),), ((0, 0, 0), 0, NO_ROW, 0, EMPTY), (EMPTY, main(when(A, NO_ROW))))
        self.assert_folded((main(again(0)),), ((0, 0, 0), 0, NO_ROW, 0, EMPTY), (EMPTY, main(again(0, NO_ROW))))

    def test_every_place_behind_is_one(self):
        for place in PLACES_BEHIND:
            outcome = folded(ROUND, place, 0, NO_ROW, 0, EMPTY)
            self.assertEqual(put(outcome, (place[0] + 1,) + place[1:])[0], ROUND)

    def test_a_call_that_would_set_the_target_alone(self):
        f = function("f", (), (), num(6))
        program = (main(put_to("a", num(6)), tell(A)),)
        self.assert_folded(program, ((0, 0), 1, call("a", "f"), 0, f), (f, main(call("a", "f"), tell(A))))


class TestNoPlace(FoldCase):
    def test_places_that_are_none(self):
        for place in NO_PLACES:
            for many in (0, 1):
                self.assert_refused(NoPlace, folded, ROUND, place, many, NO_ROW, 0, EMPTY)
                self.assert_refused(NoPlace, folded, ROUND, place, many, NO_ROW, 0, None)

    def test_a_row_behind_the_last_one(self):
        for place in PLACES_BEHIND:
            for many in (1, 2):
                self.assert_refused(NoPlace, folded, ROUND, place, many, NO_ROW, 0, EMPTY)

    def test_not_so_many_rows(self):
        program = (main(*ROWS, when(A, *ROWS)),)
        for place, many in (((0, 0), 6), ((0, 1), 5), ((0, 4), 2), ((0, 4, 0), 5), ((0, 4, 3), 2), ((0, 0), 99), ((0, 0), 10 ** 5000)):
            self.assert_refused(NoPlace, folded, program, place, many, ROW, 0, F)

    def test_many_below_nothing(self):
        for many in (-1, -4, -10 ** 5000):
            self.assert_refused(NoPlace, folded, (main(*ROWS),), (0, 0), many, ROW, 0, F)
            self.assert_refused(NoPlace, folded, (main(*ROWS),), (0, 4), many, ROW, 0, F)

    def test_it_goes_first(self):
        program = (F, main(*ROWS))
        self.assert_refused(NoPlace, folded, program, (1, 0), 5, ROW, 0, F)
        self.assert_refused(NoPlace, folded, program, (1, 0), 4, ROW, 2, F)
        self.assert_refused(NoPlace, folded, program, (1, 0), -1, tell(A), 0, F)
        self.assert_refused(NoPlace, folded, program, (1, 5), 0, tell(A), 0, None)
        self.assert_refused(NoPlace, folded, program, (1, 0), 4, tell(A), -1, EMPTY)


class TestTaken(FoldCase):
    def test_a_function_has_the_name_already(self):
        for program in ((F, main(*ROWS)), (main(*ROWS), F)):
            place = (program.index(main(*ROWS)), 0)
            self.assert_refused(Taken, folded, program, place, 4, ROW, 0, F)

    def test_the_calling_function_has_it(self):
        self.assert_refused(Taken, folded, (function("f", (), ROWS),), (0, 0), 4, ROW, 0, F)

    def test_it_goes_ahead_of_the_rest(self):
        program = (F, main(*ROWS))
        for row in (tell(A), call("a", "x"), call("a", "f"), call("p", "f", P), ROW):
            self.assert_refused(Taken, folded, program, (1, 0), 3, row, 1, F)

    def test_a_cell_or_parameter_of_that_name_takes_nothing(self):
        program = (main(*ROWS, put_to("f"), parameters=("f",)),)
        self.assert_folded(program, ((0, 0), 4, ROW, 0, F), (F, main(ROW, put_to("f"), parameters=("f",))))


class TestNoCall(FoldCase):
    def test_rows_that_are_no_calls(self):
        for row in (tell(A), put_to("f", num(3)), when(ONE, ROW), again(1, ROW), tell(name("f"))):
            self.assert_refused(NoCall, folded, (F, main(*ROWS)), (1, 0), 4, row, 0, None)
            self.assert_refused(NoCall, folded, (main(*ROWS),), (0, 0), 4, row, 0, F)

    def test_a_row_that_stands_there_but_is_no_call(self):
        self.assert_refused(NoCall, folded, (main(tell(A)),), (0, 0), 1, tell(A), 0, None)

    def test_no_function_of_that_name(self):
        self.assert_refused(NoCall, folded, (F, main(*ROWS)), (1, 0), 4, call("a", "g", num(3)), 0, None)
        self.assert_refused(NoCall, folded, (main(*ROWS),), (0, 0), 4, call("a", "g", num(3)), 0, F)

    def test_a_function_behind_and_the_calling_one_itself(self):
        self.assert_refused(NoCall, folded, (main(*ROWS), F), (0, 0), 4, ROW, 0, None)
        self.assert_refused(NoCall, folded, (main(tell(ONE)), EMPTY), (0, 0), 0, NO_ROW, 0, None)
        self.assert_refused(NoCall, folded, (main(),), (0, 0), 0, call(None, "main"), 0, None)
        self.assert_refused(NoCall, folded, (main(),), (0, 0), 0, call(None, "main"), 0, EMPTY)

    def test_not_as_many_terms(self):
        for terms in ((), (num(3), num(3))):
            self.assert_refused(NoCall, folded, (F, main(*ROWS)), (1, 0), 4, call("a", "f", *terms), 0, None)
            self.assert_refused(NoCall, folded, (main(*ROWS),), (0, 0), 4, call("a", "f", *terms), 0, F)

    def test_it_goes_ahead_of_clash_and_unlike(self):
        g = function("g", ("p", "q"), (tell(B),), NOTHING)
        self.assert_refused(NoCall, folded, (g, main(tell(A))), (1, 0), 1, call("a", "g", ONE, P, Q), 0, None)


class TestClash(FoldCase):
    def test_the_terms(self):
        f = function("f", ("p", "q"), (), NOTHING)
        program = (main(tell(ONE), put_to("p", ONE), put_to("q", P)),)
        self.assert_clash((1, 1, 0), (1, 1, 1), folded, program, (0, 1), 2, call(None, "f", ONE, P), 0, f)
        program = (f,) + program
        self.assert_clash((1, 1, 0), (1, 1, 1), folded, program, (1, 1), 2, call(None, "f", ONE, P), 0, None)

    def test_a_bare_name(self):
        f = function("f", (), (tell(ONE), tell(B)), NOTHING)
        program = (EMPTY, main(tell(A), tell(ONE), tell(B)))
        self.assert_clash((1, 1), (2, 1), folded, program, (1, 1), 2, call(None, "f"), 1, f)
        self.assert_clash((0, 1), (2, 1), folded, program, (1, 1), 2, call(None, "f"), 0, f)

    def test_a_lost_name(self):
        program = (main(*ROWS, tell(A), tell(Q)),)
        self.assert_clash((0, 0), (1, 2), folded, program, (0, 0), 4, ROW, 0, F)

    def test_it_goes_ahead_of_unlike(self):
        f = function("f", (), (tell(B),), NOTHING)
        self.assert_refused(Clash, folded, (f, main(tell(A))), (1, 0), 1, call(None, "f"), 0, None)


class TestUnlike(FoldCase):
    def test_other_rows(self):
        for row in (call("a", "f", num(4)), call("b", "f", num(3)), call(None, "f", num(3)), call("a", "f", P)):
            self.assert_refused(Unlike, folded, (main(*ROWS, tell(A)),), (0, 0), 4, row, 0, F)

    def test_rows_in_another_order(self):
        self.assert_refused(Unlike, folded, (main(*ROWS[::-1]),), (0, 0), 4, ROW, 0, F)

    def test_too_few_and_too_many_rows(self):
        f, row = function("f", (), (tell(ONE), tell(ONE))), call(None, "f")
        program = (main(*f[2], *f[2]),)
        for place, many in (((0, 0), 0), ((0, 0), 1), ((0, 0), 3), ((0, 2), 1), ((0, 4), 0)):
            self.assert_refused(Unlike, folded, program, place, many, row, 0, f)
        self.assert_folded(program, ((0, 1), 2, row, 0, f), (f, main(tell(ONE), row, tell(ONE))))

    def test_a_function_of_the_program_that_would_be_left_out(self):
        self.assert_refused(Unlike, folded, (F, main(*ROWS, tell(A))), (1, 0), 4, ROW, 0, None)

    def test_a_function_told_that_would_not_be_left_out(self):
        program = (F, main(call("b", "f", ONE), *ROWS, tell(A)))
        self.assert_refused(Unlike, folded, program, (1, 1), 4, ROW, 0, EMPTY)

    def test_a_function_told_that_another_row_calls_already(self):
        """The program handed in has a call of a function that it lacks, so it can't be any outcome."""
        program = (main(call("b", "empty")),)
        self.assert_refused(Unlike, folded, program, (0, 1), 0, NO_ROW, 0, EMPTY)


if __name__ == "__main__":
    unittest.main()
