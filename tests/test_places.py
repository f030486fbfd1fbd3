"""Points 7, 9 and 10: the rows at places, and the names that are needed behind them."""

import copy
import unittest

from safeturn.errors import NoPlace
from safeturn.places import needed, row_at
from samples import (
    NO_PLACES, NOTHING, ONE, PLACES, PLACES_BEHIND, ROUND, TurnCase,
    again, all_places, call, function, main, name, names, plus, put_to, tell, when,
)

A, B, C, D = names("a", "b", "c", "d")


class TestRowAt(TurnCase):
    def test_rows_of_each_function_and_depth(self):
        self.assertEqual(all_places(ROUND), sorted(PLACES))
        for place, row in PLACES.items():
            self.assertEqual(row_at(ROUND, place), row, place)

    def test_places_that_are_none(self):
        for place in NO_PLACES + PLACES_BEHIND:
            self.assert_refused(NoPlace, row_at, ROUND, place)

    def test_no_place_of_a_function_without_rows(self):
        for place in ((), (0,), (0, 0), (0, -1), (0, 1), (1, 0), (0, 0, 0)):
            self.assert_refused(NoPlace, row_at, (main(),), place)

    def test_numbers_below_nothing_do_not_count_from_the_end(self):
        program = (main(tell(A), when(A, tell(B), again(2, tell(C)))),)
        for place in ((0, -1, 0), (0, -1, 1), (0, 1, -1, 0), (0, -1, -1, 0), (-1, 1, 0), (0, 1, -1), (0, 1, 1, -1)):
            self.assert_refused(NoPlace, row_at, program, place)

    def test_numbers_of_any_size(self):
        """They have more figures than Python writes out, so no message may name them."""
        for number in (10 ** 5000, -10 ** 5000):
            for place in ((number,), (number, 0), (1, number), (1, 3, number), (1, number, 0), (number,) * 4):
                self.assert_refused(NoPlace, row_at, ROUND, place)

    def test_sixty_deep(self):
        row = tell(A)
        for _ in range(60):
            row = when(ONE, row)
        program = (main(row),)
        self.assertEqual(row_at(program, (0,) * 62), tell(A))
        self.assert_refused(NoPlace, row_at, program, (0,) * 63)

    def test_a_tuple_is_told_as_it_was(self):
        before = copy.deepcopy(ROUND)
        row_at(ROUND, (1, 3, 0))
        self.assertEqual(ROUND, before)


class TestNeeded(TurnCase):
    def assert_needed(self, program, place, due):
        self.assertEqual(needed(program, place), due, place)

    def test_places_that_are_none(self):
        for place in NO_PLACES + PLACES_BEHIND:
            self.assert_refused(NoPlace, needed, ROUND, place)

    def test_every_row_has_some_or_none(self):
        for place in PLACES:
            self.assertIsInstance(needed(ROUND, place), list)

    def test_behind_the_last_row_of_a_function_its_result(self):
        self.assert_needed((main(tell(A), result=plus(C, plus(B, C))),), (0, 0), ["b", "c"])
        self.assert_needed((main(tell(A)),), (0, 0), [])

    def test_what_the_row_itself_reads_is_not_needed_behind_it(self):
        self.assert_needed((main(put_to("a", plus(A, B)), result=A),), (0, 0), ["a"])

    def test_what_rows_behind_first_read(self):
        program = (main(tell(A), put_to("b", C), tell(B), tell(D)),)
        self.assert_needed(program, (0, 0), ["c", "d"])
        self.assert_needed(program, (0, 1), ["b", "d"])
        self.assert_needed(program, (0, 2), ["d"])
        self.assert_needed(program, (0, 3), [])

    def test_a_name_of_the_result_that_is_set_behind_for_sure(self):
        for row in (put_to("a"), call("a", "f"), again(1, put_to("a")), again(2, again(1, call("a", "f")))):
            program = (function("f", (), ()), main(tell(ONE), row, result=plus(A, B)))
            self.assert_needed(program, (1, 0), ["b"])

    def test_a_name_of_the_result_that_is_not_set_for_sure(self):
        for row in (when(ONE, put_to("a")), again(0, put_to("a")), again(2, when(ONE, put_to("a")))):
            self.assert_needed((main(tell(ONE), row, result=plus(A, B)),), (0, 0), ["a", "b"])

    def test_a_name_that_is_read_and_then_set_behind(self):
        self.assert_needed((main(tell(ONE), put_to("a", A), result=A),), (0, 0), ["a"])

    def test_a_name_that_is_set_and_then_read_behind(self):
        self.assert_needed((main(tell(ONE), put_to("a"), tell(A), result=A),), (0, 0), [])

    def test_rows_within_a_when(self):
        program = (main(when(D, tell(ONE), put_to("c", A)), tell(plus(B, C)), put_to("d"), result=D),)
        self.assert_needed(program, (0, 0, 0), ["a", "b"])
        self.assert_needed(program, (0, 0, 1), ["b", "c"])
        self.assert_needed(program, (0, 0), ["b", "c"])

    def test_the_term_of_the_when_is_not_needed_within_it(self):
        self.assert_needed((main(when(A, tell(ONE))),), (0, 0, 0), [])

    def test_rows_within_an_again_of_no_times_and_of_one(self):
        for count in (0, 1):
            program = (main(again(count, tell(A), put_to("b"), tell(C)), tell(B), result=D),)
            self.assert_needed(program, (0, 0, 0), ["c", "d"])
            self.assert_needed(program, (0, 0, 1), ["b", "c", "d"])
            self.assert_needed(program, (0, 0, 2), ["b", "d"])

    def test_rows_within_an_again_of_two_times_and_more(self):
        for count in (2, 3, 9):
            program = (main(again(count, tell(A), put_to("b"), tell(C)), tell(B), result=D),)
            self.assert_needed(program, (0, 0, 0), ["a", "c", "d"])
            self.assert_needed(program, (0, 0, 1), ["a", "b", "c", "d"])
            self.assert_needed(program, (0, 0, 2), ["a", "b", "c", "d"])

    def test_what_the_next_time_sets_ahead_is_not_first_read_by_it(self):
        program = (main(again(2, put_to("a"), tell(A), tell(B))),)
        self.assert_needed(program, (0, 0, 1), ["b"])
        self.assert_needed(program, (0, 0, 0), ["a", "b"])

    def test_what_the_next_time_first_reads_and_the_rows_behind_set(self):
        program = (main(again(2, tell(A), put_to("c"), put_to("a"))),)
        self.assert_needed(program, (0, 0, 0), [])
        self.assert_needed(program, (0, 0, 1), [])
        self.assert_needed(program, (0, 0, 2), ["a"])

    def test_behind_the_again_itself_its_own_rows_count_no_more(self):
        self.assert_needed((main(again(3, tell(A), put_to("b")), result=C),), (0, 0), ["c"])

    def test_a_when_within_an_again(self):
        program = (main(again(2, tell(A), when(B, put_to("c"), put_to("a"))), result=C),)
        self.assert_needed(program, (0, 0, 1, 0), ["b", "c"])
        self.assert_needed(program, (0, 0, 1, 1), ["a", "b", "c"])

    def test_an_again_within_an_again(self):
        program = (main(again(2, again(1, tell(A), tell(B)), put_to("a")), result=D),)
        self.assert_needed(program, (0, 0, 0, 0), ["b", "d"])
        self.assert_needed(program, (0, 0, 0, 1), ["b", "d"])
        self.assert_needed(program, (0, 0, 1), ["a", "b", "d"])

    def test_a_called_function_needs_nothing_of_the_others(self):
        program = (function("f", (), (tell(B), put_to("a")), NOTHING), main(tell(ONE), call("c", "f"), result=C))
        self.assert_needed(program, (0, 0), [])
        self.assert_needed(program, (1, 0), [])
        self.assert_needed(program, (1, 1), ["c"])

    def test_the_terms_of_a_call_behind(self):
        program = (function("f", ("a",), (), A), main(tell(ONE), call("c", "f", plus(D, B)), result=C))
        self.assert_needed(program, (1, 0), ["b", "d"])

    def test_rising_and_each_once(self):
        program = (main(tell(ONE), when(D, tell(B)), tell(plus(B, A)), result=plus(D, C)),)
        self.assert_needed(program, (0, 0), ["a", "b", "c", "d"])

    def test_sixty_deep(self):
        row = tell(ONE)
        for level in range(60):
            row = again(2, row, tell(B)) if level % 2 else when(C, row)
        self.assert_needed((main(row, result=A),), (0,) * 62, ["a", "b", "c"])

    def test_the_list_is_a_new_one(self):
        program = (main(tell(ONE), tell(B), result=A),)
        before = copy.deepcopy(program)
        first = needed(program, (0, 0))
        first.append("x")
        self.assert_needed(program, (0, 0), ["a", "b"])
        self.assertEqual(program, before)
        needed(ROUND, (0, 0)).append("x")
        self.assertNotIn("x", needed(ROUND, (0, 0)))


if __name__ == "__main__":
    unittest.main()
