"""Points 4, 5, 8 and 9: what rows read, set and tell, first read and surely set."""

import copy
import unittest

from safeturn.rows import first_read, reads, sets, surely_set, tells

ONE = ("num", 1)
SILENT = ("set", "x", ONE)
TELL = ("tell", ONE)


def name(text):
    return ("name", text)


def both(one, other):
    return ("sum", name(one), name(other))


def put(text, term=ONE):
    return ("set", text, term)


def tell(text):
    return ("tell", name(text))


def when(text, *rows):
    return ("when", name(text), rows)


def again(count, *rows):
    return ("again", count, rows)


def call(target, *terms):
    return ("call", target, "f", terms)


def nested(levels, row):
    """The row within so many rows, by turns a when and an again."""
    for level in range(levels):
        row = ("when", ONE, (row,)) if level % 2 else ("again", 1, (row,))
    return row


class TestReads(unittest.TestCase):
    def test_a_set_reads_its_term_not_its_name(self):
        self.assertEqual(reads(put("a", both("c", "b"))), ["b", "c"])
        self.assertEqual(reads(put("a", both("a", "b"))), ["a", "b"])
        self.assertEqual(reads(put("a")), [])

    def test_a_tell(self):
        self.assertEqual(reads(("tell", both("z", "d"))), ["d", "z"])
        self.assertEqual(reads(TELL), [])

    def test_a_call_reads_all_its_terms_neither_target_nor_function(self):
        self.assertEqual(reads(call("t", both("d", "b"), ONE, both("a", "d"))), ["a", "b", "d"])
        self.assertEqual(reads(call(None, name("b"), name("a"))), ["a", "b"])
        self.assertEqual(reads(call("t", name("t"))), ["t"])
        self.assertEqual(reads(call("t")), [])
        self.assertEqual(reads(call(None)), [])

    def test_a_when_reads_its_term_and_the_rows_within(self):
        self.assertEqual(reads(when("m", put("a", name("z")), tell("b"))), ["b", "m", "z"])
        self.assertEqual(reads(when("m")), ["m"])
        self.assertEqual(reads(("when", ONE, (put("a"),))), [])

    def test_an_again_reads_what_the_rows_within_read(self):
        self.assertEqual(reads(again(3, tell("b"), tell("a"))), ["a", "b"])
        self.assertEqual(reads(again(3)), [])
        self.assertEqual(reads(again(2, put("a"))), [])

    def test_an_again_of_no_times_reads_all_the_same(self):
        self.assertEqual(reads(again(0, tell("a"))), ["a"])

    def test_a_name_is_read_though_it_is_set_ahead(self):
        self.assertEqual(reads(again(2, put("a"), tell("a"))), ["a"])

    def test_a_name_that_is_read_often_is_told_once(self):
        row = when("a", tell("a"), put("b", both("a", "a")), again(2, tell("a")))
        self.assertEqual(reads(row), ["a"])

    def test_rows_within_rows(self):
        row = when("d", again(2, when("b", tell("c")), call("x", name("a"))))
        self.assertEqual(reads(row), ["a", "b", "c", "d"])

    def test_twenty_deep_and_deeper(self):
        for levels in (20, 21, 60):
            self.assertEqual(reads(nested(levels, put("a", both("c", "b")))), ["b", "c"], levels)


class TestSets(unittest.TestCase):
    def test_a_set_sets_its_name(self):
        self.assertEqual(sets(put("a", both("b", "c"))), ["a"])

    def test_a_tell_sets_nothing(self):
        self.assertEqual(sets(tell("a")), [])

    def test_a_call_sets_its_target(self):
        self.assertEqual(sets(call("t", name("a"), name("b"))), ["t"])

    def test_a_call_without_a_target_sets_nothing(self):
        self.assertEqual(sets(call(None, name("a"))), [])

    def test_a_when_sets_what_the_rows_within_set(self):
        self.assertEqual(sets(when("m", put("z"), tell("b"), call("c"))), ["c", "z"])
        self.assertEqual(sets(when("m")), [])
        self.assertEqual(sets(when("m", tell("a"), call(None))), [])

    def test_an_again_sets_what_the_rows_within_set(self):
        self.assertEqual(sets(again(3, put("b"), put("a"))), ["a", "b"])
        self.assertEqual(sets(again(3)), [])

    def test_an_again_of_no_times_sets_all_the_same(self):
        self.assertEqual(sets(again(0, put("a"), call("b"))), ["a", "b"])

    def test_a_name_that_is_set_often_is_told_once(self):
        self.assertEqual(sets(again(2, put("a"), call("a"), when("b", put("a")))), ["a"])

    def test_rows_within_rows(self):
        row = when("d", put("z"), again(2, when("b", put("c")), call("x", name("a"))), put("a"))
        self.assertEqual(sets(row), ["a", "c", "x", "z"])

    def test_twenty_deep_and_deeper(self):
        for levels in (20, 21, 60):
            self.assertEqual(sets(nested(levels, call("t"))), ["t"], levels)


class TestTells(unittest.TestCase):
    def setUp(self):
        self.program = (
            ("still", ("a",), (SILENT, ("when", ONE, (SILENT,))), name("a")),
            ("loud", (), (SILENT, TELL), ONE),
            ("within", (), (("when", ONE, (SILENT, ("again", 2, (TELL,)))),), ONE),
            ("byloud", (), (("call", None, "still", (ONE,)), ("call", "x", "loud", ())), ONE),
            ("bytwo", (), (("again", 1, (("call", None, "byloud", ()),)),), ONE),
            ("never", (), (("again", 0, (TELL,)),), ONE),
            ("bystill", (), (("call", "x", "still", (ONE,)),), ONE),
            ("bare", (), (), ONE),
            ("last", (), (TELL,), ONE),
        )

    def calls(self, function):
        return tells(self.program, ("call", None, function, ()))

    def test_a_tell_tells(self):
        self.assertIs(tells(self.program, TELL), True)
        self.assertIs(tells(self.program, tell("a")), True)

    def test_a_set_does_not(self):
        self.assertIs(tells(self.program, SILENT), False)

    def test_a_call_of_a_function_that_tells(self):
        self.assertIs(self.calls("loud"), True)

    def test_a_call_with_a_target_tells_too(self):
        self.assertIs(tells(self.program, ("call", "x", "loud", ())), True)

    def test_a_call_of_a_function_that_tells_by_a_row_within(self):
        self.assertIs(self.calls("within"), True)

    def test_a_call_of_a_function_that_tells_by_a_call(self):
        self.assertIs(self.calls("byloud"), True)
        self.assertIs(self.calls("bytwo"), True)

    def test_a_call_of_a_function_that_tells_no_times(self):
        self.assertIs(self.calls("never"), True)

    def test_a_call_of_a_function_that_does_not_tell(self):
        self.assertIs(tells(self.program, ("call", "x", "still", (ONE,))), False)
        self.assertIs(self.calls("bystill"), False)
        self.assertIs(self.calls("bare"), False)

    def test_a_result_is_no_tell_of_a_row(self):
        self.assertIs(self.calls("bare"), False)

    def test_a_row_with_a_row_within_that_tells(self):
        for around in (("when", ONE), ("when", ("num", 0)), ("again", 3), ("again", 0)):
            self.assertIs(tells(self.program, around + ((SILENT, TELL, SILENT),)), True, around)

    def test_a_row_with_rows_within_that_do_not_tell(self):
        for around in (("when", ONE), ("again", 3), ("again", 0)):
            self.assertIs(tells(self.program, around + ((SILENT, SILENT),)), False, around)
            self.assertIs(tells(self.program, around + ((),)), False, around)

    def test_a_row_with_a_call_within(self):
        loud = ("call", "x", "bytwo", ())
        still = ("call", "x", "bystill", ())
        self.assertIs(tells(self.program, when("a", again(0, loud))), True)
        self.assertIs(tells(self.program, when("a", again(0, still))), False)

    def test_the_program_that_is_handed_in_counts(self):
        row = ("call", None, "f", ())
        self.assertIs(tells((("f", (), (TELL,), ONE),), row), True)
        self.assertIs(tells((("f", (), (SILENT,), ONE),), row), False)

    def test_a_name_that_reads_as_a_kind_is_no_kind(self):
        program = (("tell", (), (SILENT,), ONE),)
        self.assertIs(tells(program, ("call", "tell", "tell", ())), False)
        self.assertIs(tells(program, ("set", "tell", name("tell"))), False)

    def test_twenty_deep_and_deeper(self):
        for levels in (20, 21, 60):
            self.assertIs(tells(self.program, nested(levels, TELL)), True, levels)
            self.assertIs(tells(self.program, nested(levels, SILENT)), False, levels)
            program = (("f", (), (nested(levels, TELL),), ONE),)
            self.assertIs(tells(program, nested(levels, ("call", None, "f", ()))), True, levels)

    def test_many_functions_each_calling_the_one_ahead_twice(self):
        program = [("a", (), (SILENT,), ONE)]
        for count in range(2, 41):
            ahead = ("call", None, "a" * (count - 1), ())
            program.append(("a" * count, (), (ahead, ahead), ONE))
        self.assertIs(tells(tuple(program), ("call", None, "a" * 40, ())), False)


class TestSurelySet(unittest.TestCase):
    def test_no_rows(self):
        self.assertEqual(surely_set(()), [])

    def test_a_set_and_a_call(self):
        self.assertEqual(surely_set((put("b"), call("a"))), ["a", "b"])

    def test_a_call_without_a_target_and_a_tell(self):
        self.assertEqual(surely_set((call(None, name("a")), tell("b"))), [])

    def test_what_a_when_sets_is_not_sure(self):
        self.assertEqual(surely_set((when("m", put("a"), call("b")),)), [])
        self.assertEqual(surely_set((("when", ONE, (put("a"),)),)), [])
        self.assertEqual(surely_set((when("m", again(2, put("a"))),)), [])

    def test_what_an_again_sets_is_sure_where_it_counts_above_nothing(self):
        for count in (1, 2, 9, 10):
            self.assertEqual(surely_set((again(count, put("b"), call("a")),)), ["a", "b"], count)
        self.assertEqual(surely_set((again(0, put("b"), call("a")),)), [])

    def test_an_again_within_an_again(self):
        self.assertEqual(surely_set((again(2, again(1, put("a"))),)), ["a"])
        self.assertEqual(surely_set((again(2, again(0, put("a"))),)), [])
        self.assertEqual(surely_set((again(0, again(2, put("a"))),)), [])
        self.assertEqual(surely_set((again(2, when("m", put("a")), put("b")),)), ["b"])

    def test_a_name_that_is_set_surely_and_not_surely(self):
        self.assertEqual(surely_set((when("m", put("a")), put("a"), again(0, put("a")))), ["a"])

    def test_rising_and_each_once(self):
        rows = (put("c"), again(1, put("b"), put("c")), call("a"), put("b"))
        self.assertEqual(surely_set(rows), ["a", "b", "c"])

    def test_twenty_deep_and_deeper(self):
        for levels in (20, 21, 60):
            row = put("a")
            for _ in range(levels):
                row = again(1, row)
            self.assertEqual(surely_set((row,)), ["a"], levels)


class TestFirstRead(unittest.TestCase):
    def test_no_rows(self):
        self.assertEqual(first_read(()), [])

    def test_own_terms_of_each_kind(self):
        self.assertEqual(first_read((put("x", both("b", "a")),)), ["a", "b"])
        self.assertEqual(first_read((tell("a"),)), ["a"])
        self.assertEqual(first_read((call("x", name("c"), both("b", "a")),)), ["a", "b", "c"])
        self.assertEqual(first_read((call(None, name("a")),)), ["a"])
        self.assertEqual(first_read((when("m"),)), ["m"])
        self.assertEqual(first_read((again(2),)), [])

    def test_rows_without_names(self):
        self.assertEqual(first_read((TELL, put("a"), call(None, ONE), again(2, TELL))), [])

    def test_a_row_reads_ahead_of_its_own_setting(self):
        self.assertEqual(first_read((put("a", both("a", "b")),)), ["a", "b"])
        self.assertEqual(first_read((call("a", name("a")),)), ["a"])

    def test_a_name_that_is_set_ahead_is_not_first_read(self):
        self.assertEqual(first_read((put("a"), tell("a"))), [])
        self.assertEqual(first_read((call("a"), put("b", both("a", "c")))), ["c"])
        self.assertEqual(first_read((put("a"), tell("b"), tell("a"))), ["b"])

    def test_a_name_that_is_set_behind_is_first_read(self):
        self.assertEqual(first_read((tell("a"), put("a"))), ["a"])

    def test_a_name_that_is_read_both_ahead_and_behind_is_first_read(self):
        self.assertEqual(first_read((tell("a"), put("a"), tell("a"))), ["a"])

    def test_what_a_when_sets_does_not_count_behind_it(self):
        self.assertEqual(first_read((when("m", put("a")), tell("a"))), ["a", "m"])

    def test_what_an_again_sets_counts_behind_it_above_nothing(self):
        for count in (1, 2, 9):
            self.assertEqual(first_read((again(count, put("a")), tell("a"))), [], count)
        self.assertEqual(first_read((again(0, put("a")), tell("a"))), ["a"])

    def test_a_call_without_a_target_sets_nothing_for_those_behind(self):
        self.assertEqual(first_read((call(None), tell("a"))), ["a"])

    def test_rows_within_read(self):
        self.assertEqual(first_read((when("m", tell("a")),)), ["a", "m"])
        for count in (1, 2, 9):
            self.assertEqual(first_read((again(count, tell("a")),)), ["a"], count)

    def test_an_again_of_no_times_first_reads_nothing(self):
        self.assertEqual(first_read((again(0, tell("a"), when("b", tell("c"))),)), [])
        self.assertEqual(first_read((when("m", again(0, tell("a"))), tell("b"))), ["b", "m"])

    def test_a_name_that_is_set_ahead_in_the_tuple_within(self):
        self.assertEqual(first_read((when("m", put("a"), tell("a")),)), ["m"])
        self.assertEqual(first_read((again(2, put("a"), tell("a")),)), [])

    def test_a_name_that_is_set_behind_in_the_tuple_within(self):
        self.assertEqual(first_read((again(2, tell("a"), put("a")),)), ["a"])
        self.assertEqual(first_read((when("m", tell("a"), put("a")),)), ["a", "m"])

    def test_a_name_that_is_set_ahead_in_the_tuple_around(self):
        self.assertEqual(first_read((put("a"), when("a", tell("a"), tell("b")))), ["b"])
        self.assertEqual(first_read((put("a"), again(2, when("m", tell("a"))))), ["m"])

    def test_a_name_that_is_set_behind_in_the_tuple_around(self):
        self.assertEqual(first_read((when("m", tell("a")), put("a"))), ["a", "m"])

    def test_a_when_reads_its_term_ahead_of_the_rows_within(self):
        self.assertEqual(first_read((when("a", put("a"), tell("a")),)), ["a"])

    def test_rising_and_each_once(self):
        rows = (tell("c"), when("b", tell("c"), tell("a")), put("x", both("c", "a")))
        self.assertEqual(first_read(rows), ["a", "b", "c"])

    def test_twenty_deep_and_deeper(self):
        for levels in (20, 21, 60):
            row = nested(levels, put("a", both("c", "b")))
            self.assertEqual(first_read((row,)), ["b", "c"], levels)
            self.assertEqual(first_read((put("c"), row)), ["b"], levels)


class TestToldAndHandedIn(unittest.TestCase):
    """Point 1, its last sentence."""

    def setUp(self):
        self.row = when("b", put("c", name("a")), again(1, put("d", name("a"))))
        self.rows = (put("z", name("y")), again(2, call("w", name("x"))))

    def assert_new(self, ask, thing, due):
        first = ask(thing)
        second = ask(thing)
        self.assertIsInstance(first, list)
        self.assertEqual(first, due)
        self.assertIsNot(first, second)
        first.append("more")
        first[0] = "other"
        self.assertEqual(second, due)
        self.assertEqual(ask(thing), due)

    def test_two_calls_tell_two_lists(self):
        self.assert_new(reads, self.row, ["a", "b"])
        self.assert_new(sets, self.row, ["c", "d"])
        self.assert_new(first_read, self.rows, ["x", "y"])
        self.assert_new(surely_set, self.rows, ["w", "z"])

    def test_two_calls_tell_two_lists_where_they_are_empty(self):
        for ask, thing in ((reads, TELL), (sets, TELL), (first_read, ()), (surely_set, ())):
            ask(thing).append("more")
            self.assertEqual(ask(thing), [])

    def test_what_is_handed_in_stays_the_same(self):
        program = (("f", ("p",), (self.row,) + self.rows, name("p")), ("g", (), (call("a", ONE),), ONE))
        handed_in = (program, self.row, self.rows)
        before = copy.deepcopy(handed_in)
        tells(program, self.row)
        tells(program, call("a", ONE))
        for row in self.rows + (self.row,):
            reads(row)
            sets(row)
        first_read(self.rows)
        surely_set(self.rows)
        self.assertEqual(handed_in, before)


if __name__ == "__main__":
    unittest.main()
