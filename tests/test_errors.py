"""The interface of safeturn/errors.py: the refusals and what they stand under."""

import unittest

from safeturn import errors

PLAIN = [errors.NoPlace, errors.NoName, errors.Taken, errors.NoCall, errors.Unlike]


def made(refusal):
    if refusal is errors.Clash:
        return refusal((0, 1), (0, 2))
    return refusal("why")


class TestRefusals(unittest.TestCase):
    def test_the_base_is_a_value_error(self):
        self.assertEqual(errors.TurnError.__bases__, (ValueError,))

    def test_each_stands_right_under_the_base(self):
        for refusal in PLAIN + [errors.Clash]:
            self.assertEqual(refusal.__bases__, (errors.TurnError,), refusal)

    def test_none_stands_under_another(self):
        for one in PLAIN + [errors.Clash]:
            for other in PLAIN + [errors.Clash]:
                self.assertEqual(issubclass(one, other), one is other, (one, other))

    def test_each_is_caught_as_itself_and_by_both_bases(self):
        for refusal in PLAIN + [errors.Clash, errors.TurnError]:
            for caught in (refusal, errors.TurnError, ValueError):
                with self.assertRaises(caught) as held:
                    raise made(refusal)
                self.assertIs(held.exception.__class__, refusal)

    def test_the_base_is_not_caught_by_a_class_under_it(self):
        for refusal in PLAIN + [errors.Clash]:
            self.assertNotIsInstance(errors.TurnError("why"), refusal)

    def test_the_message_is_kept(self):
        for refusal in PLAIN + [errors.TurnError]:
            self.assertEqual(str(refusal("no such thing")), "no such thing")

    def test_each_may_be_made_without_a_message(self):
        for refusal in PLAIN + [errors.TurnError]:
            self.assertIsInstance(refusal(), errors.TurnError)


class TestClash(unittest.TestCase):
    def test_the_places_are_told_in_their_order(self):
        clash = errors.Clash((1, 2, 0), (1, -1))
        self.assertEqual(clash.one, (1, 2, 0))
        self.assertEqual(clash.other, (1, -1))

    def test_the_places_are_told_where_it_is_caught(self):
        with self.assertRaises(errors.TurnError) as held:
            raise errors.Clash((0, 3), (2, 0, 1))
        self.assertEqual((held.exception.one, held.exception.other), ((0, 3), (2, 0, 1)))

    def test_the_places_are_set_on_the_object_not_on_the_class(self):
        first = errors.Clash((0, 0), (0, 1))
        second = errors.Clash((4, 0), (4, 1))
        self.assertEqual((first.one, first.other), ((0, 0), (0, 1)))
        self.assertEqual((second.one, second.other), ((4, 0), (4, 1)))
        self.assertEqual(sorted(vars(first)), ["one", "other"])
        self.assertFalse(hasattr(errors.Clash, "one"))
        self.assertFalse(hasattr(errors.Clash, "other"))

    def test_a_place_may_be_any_length(self):
        clash = errors.Clash((), (0,) * 30)
        self.assertEqual((clash.one, clash.other), ((), (0,) * 30))

    def test_the_message_names_both_places(self):
        text = str(errors.Clash((5, 1), (7, 0)))
        self.assertIn("(5, 1)", text)
        self.assertIn("(7, 0)", text)


if __name__ == "__main__":
    unittest.main()
