"""Points 13 and 14: a call is put in, and what is told to turn it round."""

import copy
import unittest

from safeturn.errors import Clash, NoCall, NoPlace
from safeturn.puts import folded, put
from safeturn.runs import run
from samples import (
    NO_PLACES, NOTHING, ONE, PLACES, PLACES_BEHIND, ROUND, TurnCase,
    again, call, function, main, name, names, num, plus, put_to, tell, when,
)

A, B, C, D, P, Q, R = names("a", "b", "c", "d", "p", "q", "r")


class PutCase(TurnCase):
    def assert_put(self, program, place, changed, told):
        """Put in it is that program and tells that, means the same, and is turned round by what it told."""
        before = copy.deepcopy(program)
        done = put(program, place)
        self.assertIsInstance(done, tuple)
        self.assertEqual(done, (changed, told))
        self.assertEqual(folded(done[0], *done[1]), program)
        self.assert_same_told(program, changed, len(program[-1][1]))
        self.assertEqual(program, before)

    def assert_one_of(self, pairs, program, place):
        clash = self.assert_refused(Clash, put, program, place)
        self.assertIn((clash.one, clash.other), pairs)


class TestWhatIsPutIn(PutCase):
    def test_parameters_rows_and_target_in_their_order(self):
        f = function("f", ("p", "q"), (put_to("p", plus(P, Q)), tell(P)), plus(P, Q))
        row = call("a", "f", num(3), plus(A, B))
        program = (f, main(tell(B), row, tell(A), parameters=("a", "b"), result=A))
        changed = (
            main(
                tell(B),
                put_to("p", num(3)), put_to("q", plus(A, B)),
                put_to("p", plus(P, Q)), tell(P),
                put_to("a", plus(P, Q)),
                tell(A),
                parameters=("a", "b"), result=A,
            ),
        )
        self.assert_put(program, (1, 1), changed, ((0, 1), 5, row, 0, f))

    def test_no_set_for_a_parameter_whose_term_is_its_own_name(self):
        f = function("f", ("p", "q", "r"), (tell(plus(P, Q)), tell(R)), NOTHING)
        row = call(None, "f", P, num(2), R)
        program = (f, main(row, parameters=("p", "r")))
        changed = (main(put_to("q", num(2)), tell(plus(P, Q)), tell(R), parameters=("p", "r")),)
        self.assert_put(program, (1, 0), changed, ((0, 0), 3, row, 0, f))

    def test_a_set_for_a_parameter_whose_term_has_its_own_name_and_more(self):
        f = function("f", ("p",), (tell(P),), NOTHING)
        row = call(None, "f", plus(P, NOTHING))
        program = (f, main(row, parameters=("p",)))
        changed = (main(put_to("p", plus(P, NOTHING)), tell(P), parameters=("p",)),)
        self.assert_put(program, (1, 0), changed, ((0, 0), 2, row, 0, f))

    def test_a_set_for_a_parameter_whose_term_is_another_ones_name(self):
        f = function("f", ("p", "q"), (tell(P), tell(Q)), NOTHING)
        row = call(None, "f", Q, P)
        self.assert_clash((1, 0, 0), (1, 0, 1), put, (f, main(row, parameters=("p", "q"))), (1, 0))
        row = call(None, "f", Q, R)
        program = (f, main(row, parameters=("p", "q", "r")))
        changed = (main(put_to("p", Q), put_to("q", R), tell(P), tell(Q), parameters=("p", "q", "r")),)
        self.assert_put(program, (1, 0), changed, ((0, 0), 4, row, 0, f))

    def test_no_set_of_the_target_where_the_result_is_just_its_name(self):
        f = function("f", ("p",), (put_to("a", plus(P, ONE)),), A)
        row = call("a", "f", B)
        program = (f, main(row, parameters=("b",), result=A))
        changed = (main(put_to("p", B), put_to("a", plus(P, ONE)), parameters=("b",), result=A),)
        self.assert_put(program, (1, 0), changed, ((0, 0), 2, row, 0, f))

    def test_a_set_of_the_target_where_the_result_has_its_name_and_more(self):
        f = function("f", ("a",), (), plus(A, NOTHING))
        row = call("a", "f", A)
        program = (f, main(row, parameters=("a",), result=A))
        changed = (main(put_to("a", plus(A, NOTHING)), parameters=("a",), result=A),)
        self.assert_put(program, (1, 0), changed, ((0, 0), 1, row, 0, f))

    def test_without_a_target_the_result_is_left_aside(self):
        f = function("f", (), (tell(ONE),), num(7))
        row = call(None, "f")
        program = (f, main(row, result=A))
        self.assert_put(program, (1, 0), (main(tell(ONE), result=A),), ((0, 0), 1, row, 0, f))

    def test_nothing_at_all_is_put_in(self):
        f = function("f", ("p",), (), P)
        for row in (call(None, "f", P), call("p", "f", P)):
            program = (f, main(tell(P), row, tell(P), parameters=("p",)))
            changed = (main(tell(P), tell(P), parameters=("p",)),)
            self.assert_put(program, (1, 1), changed, ((0, 1), 0, row, 0, f))

    def test_nothing_is_put_in_at_the_end_and_in_place_of_the_only_row(self):
        f = function("f", (), ())
        row = call(None, "f")
        self.assert_put((f, main(tell(ONE), row)), (1, 1), (main(tell(ONE)),), ((0, 1), 0, row, 0, f))
        self.assert_put((f, main(row)), (1, 0), (main(),), ((0, 0), 0, row, 0, f))
        self.assert_put((f, main(when(A, row))), (1, 0, 0), (main(when(A)),), ((0, 0, 0), 0, row, 0, f))

    def test_calls_within_whens_and_agains(self):
        f = function("f", ("p",), (put_to("p", plus(P, ONE)), tell(P)), P)
        row = call("p", "f", P)
        program = (f, main(tell(ONE), when(P, again(3, tell(A), row), tell(P)), parameters=("p",), result=P))
        changed = (
            main(
                tell(ONE),
                when(P, again(3, tell(A), put_to("p", plus(P, ONE)), tell(P)), tell(P)),
                parameters=("p",), result=P,
            ),
        )
        self.assert_put(program, (1, 1, 0, 1), changed, ((0, 1, 0, 1), 2, row, 0, f))

    def test_whens_and_agains_are_put_in(self):
        f = function("f", ("p",), (again(2, when(P, tell(P))), again(0, tell(ONE))), NOTHING)
        row = call(None, "f", A)
        program = (f, main(row, parameters=("a",)))
        changed = (main(put_to("p", A), again(2, when(P, tell(P))), again(0, tell(ONE)), parameters=("a",)),)
        self.assert_put(program, (1, 0), changed, ((0, 0), 3, row, 0, f))


class TestTheFunctionCalled(PutCase):
    def setUp(self):
        self.f = function("f", (), (tell(ONE),))
        self.row = call(None, "f")

    def test_it_stays_where_another_row_calls_it(self):
        others = (
            main(self.row, self.row),
            main(self.row, when(A, again(0, self.row))),
            main(self.row, call("a", "f")),
        )
        for last in others:
            changed = (self.f, main(tell(ONE), *last[2][1:]))
            self.assert_put((self.f, last), (1, 0), changed, ((1, 0), 1, self.row, 0, None))

    def test_it_stays_where_another_function_calls_it(self):
        g = function("g", (), (tell(num(2)), when(A, self.row)))
        changed = (self.f, g, main(tell(ONE)))
        self.assert_put((self.f, g, main(self.row)), (2, 0), changed, ((2, 0), 1, self.row, 0, None))
        changed = (self.f, function("g", (), (tell(num(2)), when(A, tell(ONE)))), main(self.row))
        self.assert_put((self.f, g, main(self.row)), (1, 1, 0), changed, ((1, 1, 0), 1, self.row, 0, None))

    def test_it_is_left_out_and_those_behind_move_up(self):
        e = function("e", (), (tell(num(5)),), B)
        g = function("g", (), (tell(num(2)),))
        program = (e, self.f, g, main(call("a", "e"), when(ONE, self.row), tell(A)), function("h", (), ()))
        changed = (e, g, main(call("a", "e"), when(ONE, tell(ONE)), tell(A)), function("h", (), ()))
        self.assert_put(program, (3, 1, 0), changed, ((2, 1, 0), 1, self.row, 1, self.f))

    def test_it_is_left_out_right_ahead_of_the_call(self):
        e = function("e", (), ())
        program = (e, self.f, main(self.row))
        self.assert_put(program, (2, 0), (e, main(tell(ONE))), ((1, 0), 1, self.row, 1, self.f))

    def test_others_that_no_row_calls_stay(self):
        e = function("e", (), (tell(num(5)),))
        program = (e, self.f, main(self.row))
        self.assertEqual(put(program, (2, 0))[0], (e, main(tell(ONE))))

    def test_what_it_calls_itself_is_still_called(self):
        g = function("g", ("p",), (call("q", "f"), tell(P)), NOTHING)
        row = call("a", "g", num(4))
        program = (self.f, g, main(row, result=A))
        changed = (self.f, main(put_to("p", num(4)), call("q", "f"), tell(P), put_to("a", NOTHING), result=A))
        self.assert_put(program, (2, 0), changed, ((1, 0), 4, row, 1, g))

    def test_a_cell_of_its_name_is_no_call(self):
        program = (self.f, main(self.row, put_to("f"), tell(name("f"))))
        self.assertEqual(put(program, (1, 0))[0], (main(tell(ONE), put_to("f"), tell(name("f"))),))

    def test_put_in_one_behind_the_other(self):
        program = (self.f, main(self.row, tell(A), self.row))
        once, first = put(program, (1, 2))
        twice, second = put(once, (1, 0))
        self.assertEqual(twice, (main(tell(ONE), tell(A), tell(ONE)),))
        self.assertEqual((first[0], first[4], second[0], second[4]), ((1, 2), None, (0, 0), self.f))
        self.assertEqual(folded(folded(twice, *second), *first), program)


class TestRefusals(PutCase):
    def test_places_that_are_none(self):
        for place in NO_PLACES + PLACES_BEHIND:
            self.assert_refused(NoPlace, put, ROUND, place)

    def test_rows_that_are_no_calls(self):
        for place, row in PLACES.items():
            if row[0] != "call":
                self.assert_refused(NoCall, put, ROUND, place)

    def test_a_set_or_tell_of_a_functions_name_is_no_call(self):
        for row in (put_to("f"), tell(name("f")), when(name("f")), again(1)):
            self.assert_refused(NoCall, put, (function("f", (), ()), main(row)), (1, 0))


class TestClashOfTerms(PutCase):
    def test_a_latter_term_has_a_former_parameter(self):
        f = function("f", ("p", "q"), (), NOTHING)
        for term in (P, plus(ONE, P), ("times", ("less", P, A), B)):
            program = (f, main(tell(A), when(A, call(None, "f", A, term)), parameters=("a", "p")))
            self.assert_clash((1, 1, 0, 0), (1, 1, 0, 1), put, program, (1, 1, 0))

    def test_the_numbers_are_those_of_the_parameters(self):
        f = function("f", ("a", "p", "b", "q", "r"), (), NOTHING)
        program = (f, main(call(None, "f", A, ONE, B, ONE, plus(P, ONE))))
        self.assert_clash((1, 0, 1), (1, 0, 4), put, program, (1, 0))

    def test_several_pairs(self):
        f = function("f", ("p", "q", "r"), (), NOTHING)
        program = (f, main(call(None, "f", ONE, P, plus(P, Q))))
        pairs = [((1, 0, 0), (1, 0, 1)), ((1, 0, 0), (1, 0, 2)), ((1, 0, 1), (1, 0, 2))]
        self.assert_one_of(pairs, program, (1, 0))

    def test_a_former_term_may_have_a_latter_parameter(self):
        f = function("f", ("p", "q"), (tell(P), tell(Q)), NOTHING)
        row = call(None, "f", Q, ONE)
        program = (f, main(row, parameters=("q",)))
        changed = (main(put_to("p", Q), put_to("q"), tell(P), tell(Q), parameters=("q",)),)
        self.assert_put(program, (1, 0), changed, ((0, 0), 4, row, 0, f))

    def test_a_term_may_have_its_own_parameter_and_latter_ones(self):
        f = function("f", ("p", "q", "r"), (tell(P), tell(Q), tell(R)), NOTHING)
        row = call(None, "f", ONE, plus(Q, R), num(2))
        program = (f, main(row, parameters=("q", "r")))
        rows = (put_to("p"), put_to("q", plus(Q, R)), put_to("r", num(2)))
        changed = (main(*rows, *f[2], parameters=("q", "r")),)
        self.assert_put(program, (1, 0), changed, ((0, 0), 6, row, 0, f))

    def test_a_latter_term_may_have_a_former_parameter_without_a_set(self):
        f = function("f", ("p", "q"), (tell(P), tell(Q)), NOTHING)
        row = call(None, "f", P, plus(P, ONE))
        program = (f, main(row, parameters=("p",)))
        changed = (main(put_to("q", plus(P, ONE)), tell(P), tell(Q), parameters=("p",)),)
        self.assert_put(program, (1, 0), changed, ((0, 0), 3, row, 0, f))


class TestClashOfBareNames(PutCase):
    def program(self, *rows, parameters=("p",), result=NOTHING):
        f = function("f", parameters, rows, result)
        terms = [name(parameter) for parameter in parameters]
        return (f, main(tell(ONE), call("a", "f", *terms), parameters=parameters))

    def assert_bare(self, where, *rows, result=NOTHING):
        self.assert_clash(where, (1, 1), put, self.program(*rows, result=result), (1, 1))

    def assert_not_bare(self, *rows, result=NOTHING):
        program = self.program(*rows, result=result)
        changed, told = put(program, (1, 1))
        self.assertEqual(folded(changed, *told), program)
        self.assert_same_told(program, changed, 1)

    def test_a_name_that_is_first_read(self):
        self.assert_bare((0, 0), tell(B))
        self.assert_bare((0, 1), tell(P), put_to("c", plus(P, B)))
        self.assert_bare((0, 0), put_to("b", B))
        self.assert_bare((0, 0), when(B, tell(ONE)))

    def test_a_name_that_a_call_of_the_function_first_reads(self):
        e = function("e", ("c",), (tell(C),), NOTHING)
        f = function("f", (), (tell(ONE), call("b", "e", B)), B)
        self.assert_clash((1, 1), (2, 0), put, (e, f, main(call("a", "f"))), (2, 0))

    def test_the_row_within_is_told(self):
        self.assert_bare((0, 1, 0, 1), tell(ONE), when(P, again(1, tell(P), tell(B))))
        self.assert_bare((0, 0, 0), again(2, put_to("c", B), put_to("b")))
        self.assert_bare((0, 1), when(P, put_to("b")), tell(B))
        self.assert_bare((0, 1), again(0, put_to("b")), tell(B))

    def test_a_name_of_the_result(self):
        self.assert_bare((0, 0), result=B)
        self.assert_bare((0, 2), tell(ONE), tell(P), result=plus(P, B))
        self.assert_bare((0, 1), when(P, put_to("b")), result=B)

    def test_the_same_bare_name_in_a_row_and_in_the_result(self):
        program = self.program(tell(B), tell(P), result=B)
        self.assert_one_of([((0, 0), (1, 1)), ((0, 2), (1, 1))], program, (1, 1))

    def test_the_same_bare_name_behind_where_it_is_set(self):
        program = self.program(tell(B), put_to("b"), tell(B), result=B)
        self.assert_one_of([((0, 0), (1, 1)), ((0, 2), (1, 1)), ((0, 3), (1, 1))], program, (1, 1))

    def test_the_target_may_be_bare_too(self):
        self.assert_bare((0, 0), tell(A))
        self.assert_bare((0, 0), result=A)

    def test_though_the_calling_function_never_has_it(self):
        program = (function("f", (), (), name("x")), main(call("a", "f")))
        self.assert_clash((0, 0), (1, 0), put, program, (1, 0))

    def test_parameters_are_not_bare(self):
        self.assert_not_bare(tell(P), when(P, tell(P)), result=P)

    def test_names_that_are_set_ahead_are_not_bare(self):
        self.assert_not_bare(put_to("b", P), tell(B), result=B)
        self.assert_not_bare(again(2, put_to("b", P), tell(B)), result=plus(B, ONE))
        self.assert_not_bare(when(P, put_to("b"), tell(B)))

    def test_names_that_an_again_of_no_times_reads_are_not_bare(self):
        self.assert_not_bare(again(0, tell(B), when(C, tell(D))))

    def test_the_place_in_a_function_in_the_midst(self):
        e = function("e", (), ())
        program = (e, function("f", (), (tell(ONE),), B), function("g", (), ()), main(call("a", "f")))
        self.assert_clash((1, 1), (3, 0), put, program, (3, 0))


class TestClashOfLostNames(PutCase):
    def test_a_set_put_in_for_a_parameter(self):
        f = function("f", ("q", "p"), (), NOTHING)
        program = (f, main(call("a", "f", Q, ONE), tell(A), tell(P), parameters=("p", "q")))
        self.assert_clash((1, 0, 1), (1, 2), put, program, (1, 0))

    def test_a_row_of_the_function(self):
        f = function("f", (), (tell(ONE), put_to("b")), NOTHING)
        program = (f, main(call("a", "f"), tell(B), parameters=("b",)))
        self.assert_clash((0, 1), (1, 1), put, program, (1, 0))

    def test_a_call_of_the_function(self):
        e = function("e", (), ())
        f = function("f", (), (call("b", "e"),), NOTHING)
        program = (e, f, main(call("a", "f"), tell(B)))
        self.assert_clash((1, 0), (2, 1), put, program, (2, 0))

    def test_a_row_within_sets_it_itself(self):
        f = function("f", (), (again(0, tell(ONE), when(ONE, put_to("b"))),), NOTHING)
        program = (f, main(call("a", "f"), tell(B)))
        self.assert_clash((0, 0, 1, 0), (1, 1), put, program, (1, 0))

    def test_a_parameter_without_a_set_that_the_rows_set(self):
        f = function("f", ("p",), (put_to("p"),), NOTHING)
        program = (f, main(call("a", "f", P), tell(P), parameters=("p",)))
        self.assert_clash((0, 0), (1, 1), put, program, (1, 0))

    def test_the_reading_row_stands_within_another(self):
        f = function("f", (), (put_to("b"),), NOTHING)
        program = (f, main(when(A, call("a", "f"), tell(A)), when(A, again(2, tell(A), tell(B)))))
        self.assert_clash((0, 0), (1, 1, 0, 1), put, program, (1, 0, 0))

    def test_the_result_of_the_calling_function_reads(self):
        f = function("f", (), (put_to("b"),), NOTHING)
        program = (f, main(when(A, call("a", "f")), tell(A), result=plus(A, B)))
        self.assert_clash((0, 0), (1, 2), put, program, (1, 0, 0))

    def test_several_pairs(self):
        f = function("f", ("p",), (put_to("p"), put_to("b"), put_to("b")), NOTHING)
        program = (f, main(tell(B), call("a", "f", ONE), tell(B), tell(P), result=plus(B, P)))
        ones = {"p": [(1, 1, 0), (0, 0)], "b": [(0, 1), (0, 2)]}
        others = {"p": [(1, 3), (1, 4)], "b": [(1, 0), (1, 2), (1, 4)]}
        pairs = [(one, other) for key in ones for one in ones[key] for other in others[key]]
        self.assert_one_of(pairs, program, (1, 1))

    def test_a_place_behind_the_call_is_told_ahead_of_one_ahead_of_it(self):
        f = function("f", (), (put_to("b"),), NOTHING)
        program = (f, main(tell(B), call("a", "f"), tell(B)))
        self.assert_clash((0, 0), (1, 2), put, program, (1, 1))

    def test_a_next_time_needs_it(self):
        f = function("f", (), (put_to("b"),), NOTHING)
        for count in (2, 9):
            program = (f, main(again(count, tell(B), call("a", "f")), parameters=("b",)))
            self.assert_clash((0, 0), (1, 0, 0), put, program, (1, 0, 1))
        for count in (0, 1):
            program = (f, main(again(count, tell(B), call("a", "f")), parameters=("b",)))
            changed = (main(again(count, tell(B), put_to("b"), put_to("a", NOTHING)), parameters=("b",)),)
            self.assert_put(program, (1, 0, 1), changed, ((0, 0, 1), 2, call("a", "f"), 0, f))

    def test_the_call_itself_needs_it_a_next_time(self):
        f = function("f", ("p",), (tell(P),), P)
        program = (f, main(again(2, call("a", "f", plus(P, ONE))), parameters=("p",)))
        self.assert_clash((1, 0, 0, 0), (1, 0, 0), put, program, (1, 0, 0))

    def test_the_target_is_not_lost(self):
        f = function("f", ("a",), (put_to("a", plus(A, ONE)),), plus(A, A))
        row = call("a", "f", B)
        program = (f, main(row, tell(A), parameters=("b",), result=A))
        changed = (
            main(put_to("a", B), put_to("a", plus(A, ONE)), put_to("a", plus(A, A)), tell(A),
                 parameters=("b",), result=A),
        )
        self.assert_put(program, (1, 0), changed, ((0, 0), 3, row, 0, f))

    def test_without_a_target_each_name_that_is_needed_is_lost(self):
        f = function("f", ("a",), (tell(A),), A)
        program = (f, main(call(None, "f", B), result=A))
        self.assert_clash((1, 0, 0), (1, 1), put, program, (1, 0))

    def test_names_that_are_not_needed_behind_may_be_set(self):
        f = function("f", ("p",), (put_to("b", P), put_to("c", B)), C)
        row = call("a", "f", ONE)
        program = (f, main(tell(B), tell(P), row, put_to("b", A), tell(B), result=A))
        changed = (
            main(tell(B), tell(P), put_to("p"), put_to("b", P), put_to("c", B), put_to("a", C),
                 put_to("b", A), tell(B), result=A),
        )
        self.assert_put(program, (1, 2), changed, ((0, 2), 4, row, 0, f))

    def test_a_name_that_the_term_of_the_call_has(self):
        f = function("f", ("p",), (tell(P),), P)
        row = call("a", "f", plus(P, ONE))
        program = (f, main(row, parameters=("p",), result=A))
        changed = (main(put_to("p", plus(P, ONE)), tell(P), put_to("a", P), parameters=("p",), result=A),)
        self.assert_put(program, (1, 0), changed, ((0, 0), 3, row, 0, f))

    def test_each_clash_keeps_from_another_meaning(self):
        """Where it is refused, putting in would indeed tell something else."""
        f = function("f", (), (put_to("b", num(5)),), NOTHING)
        program = (f, main(put_to("b", num(2)), call("a", "f"), tell(B)))
        self.assert_clash((0, 0), (1, 2), put, program, (1, 1))
        self.assertEqual(run(program, []), [2, 0])
        self.assertEqual(run((main(put_to("b", num(2)), *f[2], put_to("a", NOTHING), tell(B)),), []), [5, 0])


if __name__ == "__main__":
    unittest.main()
