"""Points 14 to 16 and 1: which functions do not pass, what is told of them, and what is refused."""

import copy
import unittest

from soothcheck.checking import check, found_kind, must_pass
from soothcheck.errors import BadKind, BadProgram, NoName, Refused, TwiceTold
from tests.check_cases import LookCases
from tests.kind_makers import A, B, NUMBER, TEXT, book, row, shape
from tests.program_makers import ONE, WORD, function, name, program

EITHER = NUMBER + TEXT
X = name("x")


class Several(LookCases):

    GOOD = function(ONE, named="good")
    BAD = function(WORD, named="bad")
    WORSE = function(("row", (X,)), (("x", A),), row(TEXT), (("B", TEXT), ("A", EITHER)), named="worse")

    def test_no_function(self):
        self.assertEqual(check([]), [])
        self.assertIsNone(must_pass([]))

    def test_all_that_do_not_pass_in_order(self):
        for functions, names in (([self.GOOD], []), ([self.BAD, self.GOOD], ["bad"]), ([self.GOOD, self.BAD], ["bad"]),
                                 ([self.WORSE, self.GOOD, self.BAD], ["worse", "bad"]),
                                 ([self.GOOD, self.BAD, function(ONE), self.WORSE], ["bad", "worse"])):
            with self.subTest(names=names):
                told = check(functions)
                self.assertIsInstance(told, list)
                self.assertEqual([refusal[0] for refusal in told], names)
                for refusal in told:
                    if refusal[0] == "bad":
                        self.look_at_refusal(refusal, "bad", TEXT, NUMBER, {})
                    else:
                        self.look_at_refusal(refusal, "worse", row(A), row(TEXT), {"B": TEXT, "A": EITHER})

    def test_must_pass_tells_the_first(self):
        self.assertIsNone(must_pass([self.GOOD, function(ONE)]))
        for functions, first in (([self.GOOD, self.BAD, self.WORSE], "bad"), ([self.WORSE, self.BAD], "worse")):
            with self.assertRaises(Refused) as caught:
                must_pass(functions)
            e = caught.exception
            self.assertEqual([(e.name, e.found, e.due, e.value, e.standing)], check(functions)[:1])
            self.assertEqual(e.name, first)

    def test_found_kind_is_of_the_one_function(self):
        functions = [self.GOOD, self.BAD, function(("text", "z"), (), TEXT + NUMBER), self.WORSE]
        self.assertEqual(found_kind(functions, "good"), NUMBER)
        self.assertEqual(found_kind(functions, "f"), TEXT)
        for word in ("bad", "worse"):
            with self.assertRaises(Refused) as caught:
                found_kind(functions, word)
            self.assertEqual(caught.exception.name, word)

    def test_a_call_of_one_that_does_not_pass(self):
        # A function is looked at by itself: of the others only what they tell of themselves counts.
        calling = function(("plus", ONE, ("call", "bad", (), ())))
        self.assertEqual([refusal[0] for refusal in check([self.BAD, calling])], ["bad"])
        self.assertEqual(found_kind([self.BAD, calling], "f"), NUMBER)

    def test_one_refusal_for_each_function(self):
        body = ("plus", WORD, ("join", ONE, ("size", ONE)))
        told = check([function(body, (), TEXT), self.BAD])
        self.assertEqual([refusal[0] for refusal in told], ["f", "bad"])
        self.assertIn(told[0][1:3], [(TEXT, NUMBER), (NUMBER, TEXT),
                                     (NUMBER, (("some", "book"), ("some", "row"), ("text",)))])
        self.look_at_shown(told[0][3], told[0][4], told[0][1], told[0][2], {})


class Results(LookCases):

    def test_the_body_fits_the_result(self):
        self.passing(ONE, NUMBER)
        self.passing(ONE, NUMBER, result=TEXT + NUMBER)
        self.passing(X, NUMBER + TEXT, (("x", TEXT + NUMBER),), result=TEXT + row(NUMBER) + NUMBER)
        self.refused(WORD, TEXT, NUMBER)
        self.refused(X, NUMBER + TEXT, TEXT, (("x", TEXT + NUMBER),), result=TEXT)
        self.refused(("row", (ONE, WORD)), row(EITHER), row(NUMBER) + row(TEXT), result=row(NUMBER) + row(TEXT))
        self.refused(("row", (WORD,)), row(TEXT), row(NUMBER + NUMBER), result=row(NUMBER + NUMBER))

    def test_letters_of_the_function(self):
        letters = (("A", EITHER), ("B", NUMBER))
        params = (("x", A), ("y", B))
        self.passing(X, A, params, letters)
        self.passing(X, A, params, letters, result=EITHER)
        self.passing(X, A, params, letters, result=B + A)
        self.refused(X, A, NUMBER, params, letters)
        self.refused(X, A, B, params, letters, result=B)
        self.refused(ONE, NUMBER, B, params, letters, result=B)
        self.refused(WORD, TEXT, A, params, letters, result=A)


class Wrong(unittest.TestCase):

    def each_refuses(self, error, functions, word="f"):
        for ask in (check, must_pass, lambda told: found_kind(told, word)):
            with self.assertRaises(error) as caught:
                ask(functions)
            self.assertIs(type(caught.exception), error)

    def test_what_is_no_program(self):
        self.each_refuses(BadProgram, None)
        self.each_refuses(BadProgram, tuple(program(ONE)))
        self.each_refuses(BadProgram, program(("num", True)))
        self.each_refuses(BadProgram, [function(ONE, named="f" + letter) for letter in "abcdefghijklm"])
        self.each_refuses(NoName, program(name("x")))
        self.each_refuses(NoName, program(("call", "f", (), ())))
        self.each_refuses(TwiceTold, program(ONE) + program(ONE))
        self.each_refuses(BadKind, program(ONE, (), A))

    def test_before_anything_is_looked_at(self):
        # The first function does not pass, but there is no program at all.
        self.each_refuses(NoName, program(WORD) + [function(name("x"), named="g")])
        self.each_refuses(BadProgram, program(WORD) + [None])
        self.each_refuses(TwiceTold, program(ONE) + program(ONE), "g")

    def test_a_way_that_is_not_looked_at_is_part_of_the_program(self):
        for error, part in ((NoName, name("y")), (BadProgram, ("num", None)), (BadKind, ("norow", A))):
            self.each_refuses(error, program(("is", "x", "text", part, ONE), (("x", NUMBER),)))

    def test_a_name_that_is_none_of_the_program(self):
        for word in ("g", "x", "", "F", "size"):
            with self.assertRaises(NoName):
                found_kind(program(ONE, (("x", NUMBER),)), word)
        with self.assertRaises(NoName):
            found_kind([], "f")
        with self.assertRaises(NoName):
            found_kind(program(WORD), "g")


class Unchanged(unittest.TestCase):

    def test_what_is_handed_in_stays(self):
        letters = (("A", EITHER), ("B", NUMBER))
        params = (("x", A), ("r", row(A)), ("b", book(EITHER)), ("s", shape(("a", A))))
        body = ("row", (("fold", "x", name("r"), "y", row(A), ("norow", A), ("push", name("y"), X)),
                        ("is", "x", "number", ("put", name("b"), WORD, X), ("get", name("s"), "a")),
                        ("call", "g", (A, NUMBER), (X, ONE))))
        functions = [function(X, (("x", A), ("y", B)), A, letters, named="g"), function(body, params, row(A), letters),
                     function(WORD, named="h")]
        before = copy.deepcopy(functions)
        told = check(functions)
        self.assertEqual([refusal[0] for refusal in told], ["f", "h"])
        for refusal in told:
            for stands in refusal[4].values():
                stands.append("more")
        with self.assertRaises(Refused):
            must_pass(functions)
        self.assertEqual(found_kind(functions, "g"), A)
        self.assertEqual(functions, before)
        self.assertNotIn("more", str(check(functions)))


if __name__ == "__main__":
    unittest.main()
