"""What the tests of fits and ground look at."""

import unittest

from soothcheck.fitting import fits, ground
from soothcheck.values import is_of


class Cases(unittest.TestCase):

    def look_at_shown(self, value, standing, one, other, bounds):
        """The value is of one and not of other at the standing, and the standing is within the bounds."""
        self.assertIsInstance(standing, dict)
        self.assertEqual(list(standing), list(bounds))
        for letter, values in standing.items():
            self.assertIsInstance(values, list)
            for stands in values:
                self.assertTrue(is_of(stands, bounds[letter], {}), (letter, stands))
        self.assertTrue(is_of(value, one, standing), (value, standing))
        self.assertFalse(is_of(value, other, standing), (value, standing))

    def fitting(self, one, other, bounds=None):
        bounds = {} if bounds is None else bounds
        with self.subTest(one=one, other=other, bounds=bounds):
            self.assertIs(fits(one, other, bounds), True)
            self.assertIsNone(ground(one, other, bounds))

    def unfitting(self, one, other, bounds=None):
        bounds = {} if bounds is None else bounds
        with self.subTest(one=one, other=other, bounds=bounds):
            self.assertIs(fits(one, other, bounds), False)
            told = ground(one, other, bounds)
            self.assertIsInstance(told, tuple)
            self.assertEqual(len(told), 2)
            self.look_at_shown(told[0], told[1], one, other, bounds)
