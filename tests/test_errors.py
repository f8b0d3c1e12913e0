"""The refusals: their kinds and their values."""

import unittest

from candleroom.errors import AirError, BadHouse, BadPlan, BadText, Broken, NoPlan

REFUSALS = {
    "BadHouse": (BadHouse, ("room", 3)),
    "BadPlan": (BadPlan, ("why",)),
    "Broken": (Broken, (2, -1)),
    "NoPlan": (NoPlan, ([(0, 1), (2, 0)],)),
    "BadText": (BadText, (4,)),
}


class KindsTest(unittest.TestCase):
    def test_any_refusal_is_a_value_error(self):
        self.assertEqual(AirError.__bases__, (ValueError,))

    def test_each_refusal_is_an_air_error_straight(self):
        for name, (kind, _) in REFUSALS.items():
            with self.subTest(name):
                self.assertEqual(kind.__bases__, (AirError,))

    def test_each_is_caught_as_air_error_and_as_value_error(self):
        for name, (kind, told) in REFUSALS.items():
            for caught in (kind, AirError, ValueError):
                with self.subTest(name, caught=caught.__name__):
                    with self.assertRaises(caught):
                        raise kind(*told)

    def test_none_is_another(self):
        for name, (kind, told) in REFUSALS.items():
            for other, (another, _) in REFUSALS.items():
                with self.subTest(name, other=other):
                    self.assertEqual(isinstance(kind(*told), another), name == other)


class ValuesTest(unittest.TestCase):
    def test_bad_house_has_word_and_number(self):
        error = BadHouse("stay", 19)
        self.assertEqual((error.word, error.number), ("stay", 19))

    def test_broken_has_hour_and_room(self):
        error = Broken(11, -1)
        self.assertEqual((error.hour, error.room), (11, -1))

    def test_no_plan_has_short(self):
        self.assertEqual(NoPlan([(0, 1), (2, 0)]).short, [(0, 1), (2, 0)])

    def test_no_plan_does_not_keep_the_list_that_it_is_made_of(self):
        short = [(0, 1)]
        error = NoPlan(short)
        short.append((1, 1))
        self.assertEqual(error.short, [(0, 1)])
        error.short.clear()
        self.assertEqual(short, [(0, 1), (1, 1)])

    def test_bad_text_has_row(self):
        self.assertEqual(BadText(0).row, 0)

    def test_each_has_a_message(self):
        for name, (kind, told) in REFUSALS.items():
            with self.subTest(name):
                self.assertNotEqual(str(kind(*told)), "")


if __name__ == "__main__":
    unittest.main()
