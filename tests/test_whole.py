"""Points 1 and 13 to 20 together: programs that are told as texts, looked at, run and told."""

import copy
import unittest

from soothcheck.checking import check, found_kind, must_pass
from soothcheck.errors import Refused
from soothcheck.kinds import shown_kind
from soothcheck.reading import read, read_kind
from soothcheck.running import run
from soothcheck.telling import shown
from soothcheck.values import is_of

PASSING = """
def first<A under number | text>(r: row(A), x: A): A = at(r, 0, x)
def sum(r: row(number)): number = fold(x, r, y, number, 0, plus(y, x))
def count(r: row(text)): book(number) = fold(x, r, y, book(number), nobook(number), put(y, x, plus(look(y, x, 0), 1)))
def sized(x: number | text | row(text)): number = is(x, number, x, size(x))
def areas(r: row({h: number, w: number} | {w: number})): row(number) = each(x, r, has(x, h, plus(get(x, h), get(x, w)), \
get(x, w)))
def both<A under number | text, B under text>(x: A, y: B): {a: A, b: row(B)} = {a: x, b: [y]}
def use(x: number | text): number | text = get(both<number | text, text>(x, "b"), a)
def named(x: number | text): text = is(x, text, join("<", join(x, ">")), "none")
def deep(r: row(row(number))): number = sum(each(x, r, sum(x)))
def all(r: row(number | text)): row(text) = fold(x, r, y, row(text), norow(text), push(y, named(x)))
"""


class Passing(unittest.TestCase):

    PROGRAM = read(PASSING)

    def test_it_passes(self):
        self.assertEqual(check(self.PROGRAM), [])
        self.assertIsNone(must_pass(self.PROGRAM))

    def test_it_is_told_as_it_was(self):
        rows = [text for text in PASSING.split("\n") if text != ""]
        self.assertEqual(shown(self.PROGRAM).split("\n"), rows)

    def test_what_it_comes_to(self):
        for name, told, value in (
                ("first", [[1, "a"], "b"], 1), ("first", [[], "b"], "b"), ("sum", [[1, 2, 3]], 6), ("sum", [[]], 0),
                ("count", [["a", "b", "a"]], {"a": 2, "b": 1}), ("count", [[]], {}), ("sized", [5], 5), ("sized", ["abc"], 3),
                ("sized", [["a"]], 1), ("areas", [[(("w", 2),), (("h", 3), ("w", 4))]], [2, 7]),
                ("both", ["x", "y"], (("a", "x"), ("b", ["y"]))), ("use", [5], 5), ("use", ["a"], "a"), ("named", ["a"], "<a>"),
                ("named", [1], "none"), ("deep", [[[1, 2], [], [3]]], 6), ("all", [[1, "a"]], ["none", "<a>"])):
            with self.subTest(name=name, told=told):
                before = copy.deepcopy(told)
                ending = run(self.PROGRAM, name, told, 1000)
                self.assertEqual(ending[:2], ("value", value))
                self.assertEqual(told, before)
                standing = {"A": [1, "a", "b", "x"], "B": ["y"]}
                self.assertTrue(is_of(ending[1], found_kind(self.PROGRAM, name), standing))
                takes = 1000 - ending[2]
                self.assertEqual(run(self.PROGRAM, name, told, takes), ("value", value, 0))
                self.assertEqual(run(self.PROGRAM, name, told, takes - 1), ("tired",))


class NotPassing(unittest.TestCase):

    def fault(self, text, found, due, told):
        """f does not pass; what told makes of the value that shows it brings a run to a fault for it."""
        program = read(text)
        with self.subTest(text=text):
            refusals = check(program)
            self.assertEqual(len(refusals), 1)
            name, was_found, was_due, value, standing = refusals[0]
            self.assertEqual((name, shown_kind(was_found), shown_kind(was_due)), ("f", found, due))
            self.assertTrue(is_of(value, was_found, standing))
            self.assertFalse(is_of(value, was_due, standing))
            with self.assertRaises(Refused) as caught:
                must_pass(program)
            self.assertEqual(caught.exception.value, value)
            values = told(value)
            for (_, kind), worth in zip(program[-1][2], values):
                self.assertTrue(is_of(worth, kind, standing))
            self.assertEqual(run(program, "f", values, 1000), ("fault", was_due, value))

    def test_a_param_that_does_not_fit(self):
        for text, found, due in (
                ("def f(x: number | text): number = plus(x, 1)", "number | text", "number"),
                ("def f(x: number | text): number = minus(1, x)", "number | text", "number"),
                ("def f(x: number | text): text = join(x, \"a\")", "number | text", "text"),
                ("def f(x: number | row(number)): number = size(x)", "number | row(number)", "some book | some row | text"),
                ("def f(x: {a: text} | text): number = size(x)", "text | {a: text}", "some book | some row | text"),
                ("def f(x: {a: number} | {b: number}): number = get(x, a)", "{a: number} | {b: number}", "with a"),
                ("def f(x: row(number) | text): number = at(x, 0, 1)", "row(number) | text", "some row"),
                ("def f(x: row(number) | text): row(number) = push(x, 1)", "row(number) | text", "some row"),
                ("def f(x: book(number) | row(number)): row(number) = each(y, x, y)", "book(number) | row(number)", "some row"),
                ("def f(x: book(number) | row(number)): number = fold(y, x, z, number, 0, y)", "book(number) | row(number)",
                 "some row"),
                ("def f(x: book(number) | number): number = look(x, \"a\", 1)", "book(number) | number", "some book"),
                ("def f(x: book(number) | number): book(number) = put(x, \"a\", 1)", "book(number) | number", "some book"),
                ("def f(x: book(number) | number): book(number) = put(nobook(number), x, 1)", "book(number) | number", "text"),
                ("def f(x: number | text): number = at([1], x, 1)", "number | text", "number"),
                ("def f(x: number | text): number = if(1, x, 1, 1)", "number | text", "number"),
                ("def f<A under number | text>(x: A): number = plus(x, 1)", "A", "number"),
                ("def f<A under number | row(text) | text>(x: A): number = is(x, number, x, plus(1, x))", "A(row, text)",
                 "number"),
                ("def f(x: number | text): number = is(x, number, 1, plus(x, 1))", "text", "number"),
                ("def f<A under text | {a: number}>(x: A): number = has(x, b, 1, get(x, a))", "A", "with a")):
            self.fault(text, found, due, lambda value: [value])

    def test_what_is_within_a_param(self):
        self.fault("def f(r: row(number | text)): row(number) = each(x, r, plus(x, 1))", "number | text", "number",
                   lambda value: [[1, value]])
        self.fault("def f(r: row(number | text)): number = fold(x, r, y, number, 0, plus(y, x))", "number | text", "number",
                   lambda value: [[1, value]])
        self.fault("def f(b: book(number | text)): number = plus(look(b, \"k\", 0), 1)", "number | text", "number",
                   lambda value: [{"k": value}])
        self.fault("def f(s: {a: number | text}): text = join(\"a\", get(s, a))", "number | text", "text",
                   lambda value: [(("a", value),)])

    def test_a_fault_in_a_function_that_is_called(self):
        program = read("def g(x: number): number = plus(x, 1)\ndef f(x: number | text): number = g(x)")
        name, found, due, value, standing = check(program)[0]
        self.assertEqual((name, found, due, standing), ("f", read_kind("number | text"), read_kind("number"), {}))
        # Nothing is asked where it is called: the fault lies within g.
        self.assertEqual(run(program, "f", [value], 9), ("fault", due, value))
        self.assertEqual(run(program, "f", [value], 4), ("fault", due, value))
        self.assertEqual(run(program, "f", [value], 3), ("tired",))

    def test_what_does_not_pass_may_run_well(self):
        program = read("def f(x: number | text): number = x\ndef g(): text = f(1)")
        self.assertEqual([refusal[0] for refusal in check(program)], ["f", "g"])
        self.assertEqual(run(program, "g", [], 9), ("value", 1, 9 - 3))
        self.assertEqual(run(program, "f", ["a"], 9), ("value", "a", 8))


if __name__ == "__main__":
    unittest.main()
