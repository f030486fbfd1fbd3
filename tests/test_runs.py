"""Points 4, 5 and 6: how a program is gone through, and what it tells."""

import copy
import unittest

from safeturn.runs import run
from samples import NOTHING, ONE, again, call, function, main, name, names, num, plus, put_to, tell, when

MOST = 1000002
A, B, C = names("a", "b", "c")


def told(*rows, result=NOTHING, inputs=(), parameters=()):
    return run((main(*rows, parameters=parameters, result=result),), list(inputs))


class TestRows(unittest.TestCase):
    def test_no_row_at_all(self):
        self.assertEqual(told(), [0])
        self.assertEqual(told(result=num(7)), [7])

    def test_set(self):
        self.assertEqual(told(put_to("a", num(5)), result=A), [5])

    def test_set_goes_by_what_was_set_ahead(self):
        rows = (put_to("a", num(5)), put_to("a", plus(A, A)), put_to("b", plus(A, ONE)))
        self.assertEqual(told(*rows, result=plus(A, B)), [21])

    def test_tell_is_in_order_and_the_result_behind(self):
        rows = (tell(num(3)), put_to("a", num(9)), tell(A), tell(num(3)))
        self.assertEqual(told(*rows, result=ONE), [3, 9, 3, 1])

    def test_a_name_that_is_never_set_is_worth_nothing(self):
        self.assertEqual(told(tell(A), result=plus(B, ONE)), [0, 1])

    def test_each_kind_of_term(self):
        rows = (tell(("less", num(2), num(5))), tell(("times", num(MOST), num(2))), tell(plus(num(MOST), num(3))))
        self.assertEqual(told(*rows), [1000000, 1000001, 2, 0])

    def test_when_its_term_is_not_nothing(self):
        for number in (1, 2, MOST):
            self.assertEqual(told(when(num(number), tell(num(8)), tell(num(9)))), [8, 9, 0])

    def test_when_its_term_is_nothing(self):
        self.assertEqual(told(when(NOTHING, tell(ONE))), [0])
        self.assertEqual(told(when(A, tell(ONE))), [0])
        self.assertEqual(told(when(plus(num(MOST), ONE), tell(ONE))), [0])

    def test_when_is_asked_once_ahead_of_its_rows(self):
        rows = (put_to("a"), when(A, put_to("a", NOTHING), tell(num(4))), tell(A))
        self.assertEqual(told(*rows), [4, 0, 0])

    def test_again_so_many_times(self):
        for count in range(10):
            rows = (again(count, put_to("a", plus(A, num(2))), tell(A)),)
            due = [2 * time for time in range(1, count + 1)]
            self.assertEqual(told(*rows, result=A), due + [2 * count], count)

    def test_again_of_more_times_than_nine(self):
        self.assertEqual(told(again(12, tell(ONE))), [1] * 12 + [0])

    def test_again_within_again_counts_anew_each_time(self):
        rows = (again(3, again(2, put_to("a", plus(A, ONE))), tell(A)),)
        self.assertEqual(told(*rows), [2, 4, 6, 0])

    def test_rows_within_rows_go_ahead_of_the_rows_behind(self):
        rows = (when(ONE, tell(num(1)), again(2, tell(num(2))), tell(num(3))), tell(num(4)))
        self.assertEqual(told(*rows, result=num(5)), [1, 2, 2, 3, 4, 5])

    def test_empty_whens_and_agains(self):
        self.assertEqual(told(when(ONE), again(3), tell(ONE)), [1, 0])

    def test_sixty_deep(self):
        row = tell(A)
        for level in range(60):
            row = when(ONE, row) if level % 2 else again(1, put_to("a", plus(A, ONE)), row)
        self.assertEqual(told(row, result=A), [30, 30])


class TestInputs(unittest.TestCase):
    def test_parameters_are_worth_the_inputs_in_their_order(self):
        self.assertEqual(told(tell(A), tell(B), inputs=(3, 4), parameters=("b", "a")), [4, 3, 0])

    def test_by_their_rests(self):
        pairs = (
            (MOST, MOST), (1000003, 0), (1000004, 1), (-1, MOST), (-1000003, 0), (-1000005, 1000001),
            (10 ** 30, 10 ** 30 % 1000003), (-10 ** 30, -10 ** 30 % 1000003),
        )
        for number, rest in pairs:
            self.assertEqual(told(tell(A), result=A, inputs=[number], parameters=("a",)), [rest, rest], number)

    def test_a_when_goes_by_the_rest(self):
        rows = (when(A, tell(ONE)),)
        self.assertEqual(told(*rows, inputs=[2000006], parameters=("a",)), [0])
        self.assertEqual(told(*rows, inputs=[-1], parameters=("a",)), [1, 0])

    def test_inputs_stay_as_they_were(self):
        program = (main(put_to("a", num(9)), again(2, tell(A)), parameters=("a", "b"), result=B),)
        inputs = [10 ** 9, -5]
        before = copy.deepcopy(program)
        first = run(program, inputs)
        self.assertEqual(first, [9, 9, 999998])
        self.assertEqual(inputs, [10 ** 9, -5])
        self.assertEqual(program, before)

    def test_the_same_program_twice(self):
        program = (
            function("f", ("a",), (put_to("b", plus(B, A)), tell(B)), B),
            main(again(2, call("a", "f", num(3))), parameters=("c",), result=plus(A, C)),
        )
        first = run(program, [1])
        second = run(program, [1])
        self.assertEqual(first, [3, 3, 4])
        self.assertEqual(second, first)
        self.assertIsNot(first, second)
        first.append(5)
        self.assertEqual(run(program, [1]), [3, 3, 4])


class TestCalls(unittest.TestCase):
    def test_the_last_function_is_gone_through(self):
        program = (function("f", (), (tell(num(1)),), num(2)), function("g", (), (tell(num(3)),), num(4)))
        self.assertEqual(run(program, []), [3, 4])

    def test_the_target_is_worth_the_result(self):
        program = (function("f", ("a",), (), plus(A, ONE)), main(call("c", "f", num(6)), result=C))
        self.assertEqual(run(program, []), [7])

    def test_without_a_target_nothing_is_set(self):
        program = (
            function("f", ("a",), (tell(A),), num(9)),
            main(put_to("a", num(4)), call(None, "f", num(6)), result=A),
        )
        self.assertEqual(run(program, []), [6, 4])

    def test_what_a_called_function_tells_stands_in_its_order(self):
        program = (
            function("f", (), (tell(num(2)),), num(9)),
            function("g", (), (tell(num(1)), call("a", "f"), tell(A)), num(8)),
            main(tell(num(0)), call("a", "g"), tell(A), result=num(7)),
        )
        self.assertEqual(run(program, []), [0, 1, 2, 9, 8, 7])

    def test_a_called_function_has_cells_of_its_own(self):
        program = (
            function("f", ("a",), (tell(B), put_to("a", num(5)), put_to("b", num(6))), plus(A, B)),
            main(put_to("a", num(1)), put_to("b", num(2)), call("c", "f", A), tell(A), tell(B), result=C),
        )
        self.assertEqual(run(program, []), [0, 1, 2, 11])

    def test_each_call_begins_with_the_parameters_alone(self):
        program = (
            function("f", (), (put_to("a", plus(A, ONE)), tell(A)), A),
            main(again(3, call("b", "f")), call("b", "f"), result=B),
        )
        self.assertEqual(run(program, []), [1, 1, 1, 1, 1])

    def test_all_terms_are_reckoned_ahead_of_the_call(self):
        program = (
            function("f", ("a", "b"), (tell(A), tell(B)), ("less", A, B)),
            main(put_to("a", num(9)), put_to("b", num(4)), call("a", "f", B, plus(A, ONE)), result=A),
        )
        self.assertEqual(run(program, []), [4, 10, 999997])

    def test_a_target_that_the_terms_have(self):
        program = (
            function("f", ("p", "q"), (), plus(name("p"), name("q"))),
            main(put_to("a", num(9)), again(2, call("a", "f", A, A)), result=A),
        )
        self.assertEqual(run(program, []), [36])

    def test_a_target_that_is_called_like_a_parameter(self):
        program = (
            function("f", ("a", "b"), (put_to("a", plus(A, B)),), B),
            main(call("a", "f", num(3), num(4)), tell(A), result=B),
        )
        self.assertEqual(run(program, []), [4, 0])

    def test_the_result_is_reckoned_behind_the_rows(self):
        program = (function("f", ("a",), (put_to("a", num(5)),), A), main(call("a", "f", ONE), result=A))
        self.assertEqual(run(program, []), [5])

    def test_calls_within_whens_and_agains_of_a_called_function(self):
        program = (
            function("f", ("a",), (when(A, tell(A)),), plus(A, ONE)),
            function("g", ("a",), (again(3, call("a", "f", A)), when(A, call("b", "f", NOTHING))), plus(A, B)),
            main(call("c", "g", NOTHING), result=C),
        )
        self.assertEqual(run(program, []), [1, 2, 4])

    def test_a_row_behind_a_call_within_goes_on_where_it_was(self):
        program = (
            function("f", (), (), num(3)),
            main(again(2, tell(ONE), call("a", "f"), tell(A)), result=num(4)),
        )
        self.assertEqual(run(program, []), [1, 3, 1, 3, 4])

    def test_names_of_functions_and_of_cells_are_apart(self):
        program = (function("a", ("a",), (), A), main(put_to("a", num(5)), call("b", "a", ONE), result=plus(A, B)))
        self.assertEqual(run(program, []), [6])

    def test_functions_that_call_one_another_over_very_many(self):
        functions = [function("f", ("a",), (), plus(A, ONE))]
        for number in range(3000):
            text = "f" + "".join("abcdefghij"[int(figure)] for figure in str(number))
            functions.append(function(text, ("a",), (call("a", functions[-1][0], A),), plus(A, ONE)))
        self.assertEqual(run(tuple(functions), [0]), [3001])


if __name__ == "__main__":
    unittest.main()
