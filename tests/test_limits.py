import unittest

from rankwright import limits

BOUNDS = {
    "MAX_ELEMENT": 199, "MAX_GROUND": 10, "MAX_RANKS": 6, "MAX_FAMILY": 6, "MAX_VERTEX": 10, "MAX_LOG": 20,
    "MAX_TREE": 7, "MAX_FORM": 6, "MAX_CUTS": 5, "MAX_PAIR": 8, "MAX_PACKING": 4, "FIRST_MARKER": 150,
}


class LimitsTest(unittest.TestCase):

    def test_every_bound_has_its_value(self):
        for name, value in BOUNDS.items():
            with self.subTest(name=name):
                self.assertIs(type(getattr(limits, name)), int)
                self.assertEqual(getattr(limits, name), value)

    def test_there_is_no_other_bound(self):
        self.assertEqual({name for name in vars(limits) if name.isupper()}, set(BOUNDS))
