"""Points 2 and 3: numbers and their rests, terms, the names in them and their worth."""

import copy
import unittest

from safeturn.terms import names_in, worth

A = ("name", "a")
B = ("name", "b")
C = ("name", "c")
LEAST = 0
MOST = 1000002


def num(number):
    return ("num", number)


def deep(kind, levels, leaf, right):
    """A term with so many terms around the leaf, which stands at the right or at the left."""
    term = leaf
    for _ in range(levels):
        term = (kind, right, term)
    return term


def deep_left(kind, levels, leaf, right):
    term = leaf
    for _ in range(levels):
        term = (kind, term, right)
    return term


class TestNamesIn(unittest.TestCase):
    def test_a_number_has_none(self):
        self.assertEqual(names_in(num(7)), [])

    def test_a_name_is_its_own(self):
        self.assertEqual(names_in(("name", "total")), ["total"])

    def test_each_kind_with_two_terms(self):
        for kind in ("sum", "less", "times"):
            self.assertEqual(names_in((kind, A, B)), ["a", "b"], kind)
            self.assertEqual(names_in((kind, num(1), B)), ["b"], kind)
            self.assertEqual(names_in((kind, A, num(1))), ["a"], kind)
            self.assertEqual(names_in((kind, num(1), num(2))), [], kind)

    def test_the_order_is_that_of_standing_not_of_letters(self):
        self.assertEqual(names_in(("less", C, ("sum", A, B))), ["c", "a", "b"])
        self.assertEqual(names_in(("times", ("sum", B, C), A)), ["b", "c", "a"])

    def test_a_name_that_stands_twice_is_told_once_at_its_first_place(self):
        self.assertEqual(names_in(("sum", B, B)), ["b"])
        self.assertEqual(names_in(("sum", ("less", B, A), ("times", A, B))), ["b", "a"])
        self.assertEqual(names_in(("sum", ("less", C, A), ("times", B, C))), ["c", "a", "b"])

    def test_the_words_of_kinds_may_be_names(self):
        term = ("sum", ("name", "num"), ("less", ("name", "name"), ("name", "times")))
        self.assertEqual(names_in(term), ["num", "name", "times"])

    def test_the_longest_name_and_a_longer_one(self):
        self.assertEqual(names_in(("name", "abcdefgh")), ["abcdefgh"])
        self.assertEqual(names_in(("name", "abcdefghij")), ["abcdefghij"])

    def test_twenty_deep_and_deeper(self):
        for levels in (20, 21, 60):
            self.assertEqual(names_in(deep("sum", levels, C, A)), ["a", "c"], levels)
            self.assertEqual(names_in(deep_left("less", levels, C, A)), ["c", "a"], levels)

    def test_a_list_is_told(self):
        self.assertIsInstance(names_in(A), list)
        self.assertIsInstance(names_in(num(1)), list)

    def test_the_list_is_a_new_one_each_time(self):
        term = ("sum", B, A)
        first = names_in(term)
        second = names_in(term)
        self.assertIsNot(first, second)
        first.append("x")
        first[0] = "y"
        self.assertEqual(second, ["b", "a"])
        self.assertEqual(names_in(term), ["b", "a"])
        none = names_in(num(3))
        none.append("x")
        self.assertEqual(names_in(num(3)), [])


class TestWorth(unittest.TestCase):
    def test_a_number(self):
        for number in (LEAST, 1, 500000, MOST):
            self.assertEqual(worth(num(number), {}), number)

    def test_a_number_beyond_the_limit_is_told_by_its_rest(self):
        self.assertEqual(worth(num(1000003), {}), 0)
        self.assertEqual(worth(num(1000010), {}), 7)
        self.assertEqual(worth(num(-1), {}), MOST)

    def test_a_name_is_worth_its_cell(self):
        self.assertEqual(worth(A, {"a": 12, "b": 13}), 12)
        self.assertEqual(worth(A, {"a": 0}), 0)
        self.assertEqual(worth(A, {"a": MOST}), MOST)

    def test_a_cell_beyond_the_limit_is_told_by_its_rest(self):
        self.assertEqual(worth(A, {"a": 1000003}), 0)
        self.assertEqual(worth(A, {"a": -2}), 1000001)

    def test_a_name_that_has_no_cell_is_worth_nothing(self):
        self.assertEqual(worth(A, {}), 0)
        self.assertEqual(worth(A, {"b": 5}), 0)
        self.assertEqual(worth(("sum", A, B), {"b": 5}), 5)
        self.assertEqual(worth(("times", A, B), {"b": 5}), 0)
        self.assertEqual(worth(("less", A, B), {"b": 5}), 999998)

    def test_a_sum(self):
        self.assertEqual(worth(("sum", num(3), num(4)), {}), 7)
        self.assertEqual(worth(("sum", num(MOST), num(0)), {}), MOST)
        self.assertEqual(worth(("sum", num(MOST), num(1)), {}), 0)
        self.assertEqual(worth(("sum", num(MOST), num(MOST)), {}), 1000001)

    def test_a_difference_is_the_first_less_the_second(self):
        self.assertEqual(worth(("less", num(9), num(4)), {}), 5)
        self.assertEqual(worth(("less", num(4), num(4)), {}), 0)

    def test_a_difference_below_nothing_is_told_by_its_rest(self):
        self.assertEqual(worth(("less", num(4), num(9)), {}), 999998)
        self.assertEqual(worth(("less", num(0), num(1)), {}), MOST)
        self.assertEqual(worth(("less", num(0), num(MOST)), {}), 1)

    def test_a_product(self):
        self.assertEqual(worth(("times", num(6), num(7)), {}), 42)
        self.assertEqual(worth(("times", num(MOST), num(1)), {}), MOST)
        self.assertEqual(worth(("times", num(1000), num(1001)), {}), 1001000 - 1000003)
        self.assertEqual(worth(("times", num(MOST), num(MOST)), {}), 1)
        self.assertEqual(worth(("times", num(MOST), num(0)), {}), 0)

    def test_terms_within_terms(self):
        cells = {"a": 10, "b": 3}
        term = ("times", ("less", A, B), ("sum", A, ("times", B, num(2))))
        self.assertEqual(worth(term, cells), 112)
        self.assertEqual(worth(("less", B, ("less", A, B)), cells), 999999)
        self.assertEqual(worth(("less", ("less", B, A), B), cells), 999993)

    def test_a_name_that_stands_twice_is_worth_the_same_twice(self):
        self.assertEqual(worth(("sum", A, ("times", A, A)), {"a": 5}), 30)
        self.assertEqual(worth(("less", A, A), {"a": 5}), 0)

    def test_twenty_deep_and_deeper(self):
        for levels in (20, 21, 60):
            self.assertEqual(worth(deep("sum", levels, A, num(2)), {"a": 5}), 5 + 2 * levels)
            self.assertEqual(worth(deep_left("less", levels, A, num(1)), {"a": 90}), 90 - levels)
            self.assertEqual(
                worth(deep("times", levels, A, num(3)), {"a": 1}), 3 ** levels % 1000003
            )

    def test_the_cells_are_the_same_afterwards(self):
        cells = {"b": 4, "a": 1000004}
        before = copy.deepcopy(cells)
        worth(("sum", ("times", A, C), ("less", B, ("name", "d"))), cells)
        self.assertEqual(cells, before)
        self.assertEqual(list(cells), list(before))
        empty = {}
        worth(A, empty)
        self.assertEqual(empty, {})

    def test_the_cells_of_this_call_count(self):
        cells = {"a": 1}
        self.assertEqual(worth(A, cells), 1)
        cells["a"] = 2
        self.assertEqual(worth(A, cells), 2)


if __name__ == "__main__":
    unittest.main()
