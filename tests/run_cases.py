"""What the tests of run look at."""

import copy
import unittest

from soothcheck.running import run
from tests.kind_makers import NUMBER
from tests.program_makers import function


class RunCases(unittest.TestCase):

    # Functions that are told ahead of the one that is run, f.
    EARLIER = []

    def runs(self, body, told, takes, ending):
        """At just the breath that it takes a run has this ending; with one less it is tired.

        What is asked of params and results counts for nothing in a run, so all are told to be numbers.
        """
        functions = self.EARLIER + [function(body, tuple((name, NUMBER) for name in told))]
        values = list(told.values())
        before = copy.deepcopy((functions, values))
        with self.subTest(body=body, told=told):
            self.assertEqual(run(functions, "f", values, takes), ending(0))
            self.assertEqual(run(functions, "f", values, takes - 1), ("tired",))
            self.assertEqual(run(functions, "f", values, takes + 7), ending(7))
            self.assertEqual((functions, values), before)

    def worked(self, body, value, takes, **told):
        """The body comes to this value, told values standing for names."""
        self.runs(body, told, takes, lambda left: ("value", value, left))

    def faulted(self, body, due, value, takes, **told):
        """The body comes to a fault, for which it takes this breath."""
        self.runs(body, told, takes, lambda left: ("fault", due, value))
