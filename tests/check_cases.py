"""What the tests of check, must_pass and found_kind look at."""

from soothcheck.checking import check, found_kind, must_pass
from soothcheck.errors import Refused
from tests.fit_cases import Cases
from tests.program_makers import program


class LookCases(Cases):

    # Functions that are told ahead of the one that is looked at, f.
    EARLIER = []

    def passing(self, body, kind, params=(), letters=(), result=None):
        """The body has just this kind, and f passes; the result is the kind where no other is told."""
        with self.subTest(body=body):
            functions = self.EARLIER + program(body, params, kind if result is None else result, letters)
            self.assertEqual(check(functions), [])
            self.assertIsNone(must_pass(functions))
            self.assertEqual(found_kind(functions, "f"), kind)

    def refused(self, body, found, due, params=(), letters=(), result=(("number",),)):
        """f does not pass for one reason alone: found does not fit due."""
        with self.subTest(body=body):
            functions = self.EARLIER + program(body, params, result, letters)
            told = check(functions)
            self.assertIsInstance(told, list)
            self.assertEqual(len(told), 1)
            self.look_at_refusal(told[0], "f", found, due, dict(letters))
            for ask in (lambda: must_pass(functions), lambda: found_kind(functions, "f")):
                with self.assertRaises(Refused) as caught:
                    ask()
                e = caught.exception
                self.look_at_refusal((e.name, e.found, e.due, e.value, e.standing), "f", found, due, dict(letters))

    def look_at_refusal(self, told, name, found, due, bounds):
        self.assertIsInstance(told, tuple)
        self.assertEqual(told[:3], (name, found, due))
        self.look_at_shown(told[3], told[4], found, due, bounds)
