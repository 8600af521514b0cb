"""Points 12, 13, 17 and 18: what comes of each part, in which order, and the breath that it takes."""

import copy
import unittest

from soothcheck.errors import BadCall, BadKind, BadProgram, NoName, SoothError, TwiceTold
from soothcheck.reading import read
from soothcheck.running import run
from soothcheck.values import is_of
from tests.kind_makers import A, NUMBER, TEXT, row
from tests.program_makers import ONE, WORD, function, name, program
from tests.run_cases import RunCases

X = name("x")
Y = name("y")
TWO = ("num", 2)
SOME_ROW = (("some", "row"),)
SOME_BOOK = (("some", "book"),)
SIZED = (("some", "book"), ("some", "row"), ("text",))
# What takes much breath, and what comes to a fault, wherever it is worked out.
LONG = ("each", "i", ("row", (ONE,) * 50), ("row", (ONE,) * 50))
WRONG = ("plus", ("text", "wrong"), ONE)
# One value of each head.
HEADS = {"number": 7, "text": "t", "row": [7], "book": {"k": 7}, "shape": (("a", 7),)}


class Plain(RunCases):

    def test_numbers_texts_and_names(self):
        self.worked(("num", 0), 0, 1)
        self.worked(("num", -(10 ** 30 - 1)), -(10 ** 30 - 1), 1)
        self.worked(("text", ""), "", 1)
        self.worked(("text", "a\"\\ ~"), "a\"\\ ~", 1)
        for value in (*HEADS.values(), [], {}, "", 0):
            self.worked(X, value, 1, x=value)

    def test_rows_books_and_shapes(self):
        self.worked(("row", (ONE,)), [1], 2)
        self.worked(("row", (WORD, X, ("row", (ONE, TWO)))), ["x", {}, [1, 2]], 6, x={})
        self.worked(("norow", TEXT), [], 1)
        self.worked(("nobook", row(TEXT)), {}, 1)
        self.worked(("shape", (("a", ONE),)), (("a", 1),), 2)
        self.worked(("shape", (("a", X), ("b", ("shape", (("c", ONE),))))), (("a", [2]), ("b", (("c", 1),))), 4, x=[2])

    def test_get(self):
        self.worked(("get", X, "a"), 1, 2, x=(("a", 1),))
        self.worked(("get", X, "a"), 1, 2, x=(("a", 1), ("b", 2)))
        self.worked(("get", X, "b"), [2], 2, x=(("a", 1), ("b", [2])))
        self.worked(("get", ("shape", (("a", ONE), ("b", TWO))), "b"), 2, 4)
        for value in (7, "a", ["a"], {"a": 1}, (("b", 1),), (("aa", 1),), (("b", (("a", 1),)),)):
            self.faulted(("get", X, "a"), (("with", "a"),), value, 2, x=value)


class Sums(RunCases):

    def test_plus_and_minus(self):
        self.worked(("plus", ONE, ("num", -3)), -2, 3)
        self.worked(("minus", ONE, ("num", 3)), -2, 3)
        self.worked(("minus", ("num", -3), ONE), -4, 3)
        self.worked(("plus", ("minus", X, ONE), Y), 9, 5, x=5, y=5)
        self.worked(("plus", X, X), 2 * 10 ** 40, 3, x=10 ** 40)

    def test_numbers_are_due(self):
        for word in ("plus", "minus"):
            for head, value in HEADS.items():
                if head != "number":
                    self.faulted((word, X, ONE), NUMBER, value, 2, x=value)
                    self.faulted((word, ONE, X), NUMBER, value, 3, x=value)

    def test_join(self):
        self.worked(("join", ("text", "ab"), ("text", "c")), "abc", 3 + 3)
        self.worked(("join", ("text", ""), ("text", "")), "", 3)
        self.worked(("join", X, X), "\n%\n%", 3 + 4, x="\n%")
        self.worked(("join", ("join", X, Y), X), "aba", 5 + 2 + 3, x="a", y="b")

    def test_texts_are_due_in_join(self):
        for head, value in HEADS.items():
            if head != "text":
                self.faulted(("join", X, WORD), TEXT, value, 2, x=value)
                self.faulted(("join", WORD, X), TEXT, value, 3, x=value)

    def test_size(self):
        for value, many in (("", 0), ("abc", 3), ([], 0), ([[], [1, 2]], 2), ({}, 0), ({"a": 1, "": [1, 2]}, 2)):
            self.worked(("size", X), many, 2, x=value)
        self.worked(("size", ("norow", NUMBER)), 0, 2)
        for value in (7, (("a", 7),), (("row", [7]),)):
            self.faulted(("size", X), SIZED, value, 2, x=value)


class Rows(RunCases):

    def test_push(self):
        self.worked(("push", X, ONE), [1], 3 + 1, x=[])
        self.worked(("push", X, X), ["a", 2, ["a", 2]], 3 + 3, x=["a", 2])
        self.worked(("push", ("push", ("norow", TEXT), ONE), WORD), [1, "x"], 5 + 1 + 2)

    def test_at(self):
        letters = ["a", "b", "c"]
        for place, value in ((0, "a"), (1, "b"), (2, "c"), (3, 9), (-1, 9), (-3, 9), (10 ** 40, 9), (-10 ** 40, 9)):
            self.worked(("at", X, Y, ("num", 9)), value, 4, x=letters, y=place)
        self.worked(("at", ("norow", TEXT), ("num", 0), WORD), "x", 4)

    def test_each(self):
        self.worked(("each", "y", X, ("plus", Y, ONE)), [2, 3, 4], 2 + 9 + 3, x=[1, 2, 3])
        self.worked(("each", "y", X, WRONG), [], 2, x=[])
        self.worked(("each", "y", X, ONE), [1, 1], 2 + 2 + 2, x=["a", []])
        self.worked(("each", "x", X, ("row", (X,))), [[1], [[2]]], 2 + 4 + 2, x=[1, [2]])
        self.worked(("each", "x", X, ("each", "y", X, ("size", Y))), [[1, 0], []], 2 + (2 + 4 + 2) + 2 + 2,
                    x=[["a", ""], []])

    def test_fold(self):
        self.worked(("fold", "x", X, "y", NUMBER, ONE, ("plus", Y, X)), 7, 3 + 9, x=[1, 2, 3])
        self.worked(("fold", "x", X, "y", NUMBER, ("num", 10), ("minus", Y, X)), 4, 3 + 9, x=[1, 2, 3])
        self.worked(("fold", "x", X, "y", TEXT, WORD, ("join", X, Y)), "bax", 3 + 6 + 2 + 3, x=["a", "b"])
        self.worked(("fold", "x", X, "y", NUMBER, WORD, WRONG), "x", 3, x=[])
        self.worked(("fold", "x", X, "y", NUMBER, ("num", 0), X), 3, 3 + 3, x=[1, 2, 3])
        # f is worked out where the two names are not given yet.
        self.worked(("fold", "x", X, "y", NUMBER, ("plus", Y, ("size", X)), ("plus", Y, X)), 42 + 6, 6 + 6, x=[1, 3],
                    y=42)

    def test_nothing_is_asked_of_what_fold_comes_to(self):
        self.worked(("fold", "x", X, "y", NUMBER, WORD, ("row", (Y, X))), [["x", 1], 2], 3 + 6, x=[1, 2])

    def test_rows_are_due(self):
        for head, value in HEADS.items():
            if head != "row":
                for body in (("push", X, WRONG), ("at", X, WRONG, WRONG), ("each", "y", X, WRONG),
                             ("fold", "y", X, "z", NUMBER, WRONG, WRONG)):
                    self.faulted(body, SOME_ROW, value, 2, x=value)

    def test_places_are_numbers(self):
        for head, value in HEADS.items():
            if head != "number":
                self.faulted(("at", Y, X, WRONG), NUMBER, value, 3, x=value, y=[])


class Books(RunCases):

    def test_put(self):
        self.worked(("put", X, WORD, ONE), {"x": 1}, 4 + 1, x={})
        self.worked(("put", X, WORD, ONE), {"a": 2, "x": 1}, 4 + 2, x={"a": 2})
        self.worked(("put", X, WORD, ONE), {"a": 2, "x": 1}, 4 + 2, x={"a": 2, "x": [3]})
        self.worked(("put", X, Y, X), {"": {}}, 4 + 1, x={}, y="")
        self.worked(("put", ("put", ("nobook", TEXT), WORD, ONE), WORD, TWO), {"x": 2}, 7 + 1 + 1)

    def test_look(self):
        book = {"": 1, "x": [2]}
        for key, value in (("", 1), ("x", [2]), ("y", 9), ("xx", 9)):
            self.worked(("look", X, Y, ("num", 9)), value, 4, x=book, y=key)

    def test_books_and_texts_are_due(self):
        for head, value in HEADS.items():
            for word in ("put", "look"):
                if head != "book":
                    self.faulted((word, X, WRONG, WRONG), SOME_BOOK, value, 2, x=value)
                if head != "text":
                    self.faulted((word, Y, X, WRONG), TEXT, value, 3, x=value, y={"t": 1})


class Ways(RunCases):

    def test_let(self):
        self.worked(("let", "y", ("plus", X, ONE), ("row", (Y, X, Y))), [6, 5, 6], 1 + 3 + 4, x=5)
        # What is not used is worked out, too.
        self.worked(("let", "y", ("plus", X, ONE), WORD), "x", 5, x=5)
        self.faulted(("let", "y", WRONG, ONE), NUMBER, "wrong", 3)

    def test_names_given_anew_are_hidden_there_alone(self):
        self.worked(("row", (("let", "x", WORD, X), X)), ["x", 5], 5, x=5)
        self.worked(("let", "x", ("let", "x", ("plus", X, X), ("plus", X, X)), X), 20, 9, x=5)
        self.worked(("row", (("each", "x", ("row", (WORD, TWO)), X), X)), [["x", 2], 5], 1 + 4 + 2 + 2 + 1, x=5)
        self.worked(("row", (("fold", "x", ("row", (WORD,)), "y", NUMBER, X, ("row", (X, Y))), X, Y)),
                    [["x", 5], 5, 6], 1 + 4 + 3 + 2, x=5, y=6)
        # Within each and fold, too.
        self.worked(("each", "y", X, ("row", (("let", "y", ("row", (Y,)), Y), Y))), [[[1], 1], [[2], 2]], 2 + 12 + 2,
                    x=[1, 2])
        self.worked(("each", "y", X, ("row", (("each", "y", ("row", (WORD,)), Y), Y))), [[["x"], 1], [["x"], 2]],
                    2 + 2 * (2 + 3 + 1 + 1) + 2, x=[1, 2])
        self.worked(("fold", "x", X, "y", NUMBER, ONE, ("let", "x", ("plus", X, Y), ("let", "y", X, Y))), 7, 3 + 21,
                    x=[1, 2, 3])

    def test_if(self):
        for lesser, greater, value in ((1, 2, "yes"), (2, 2, "no"), (3, 2, "no"), (-1, 0, "yes"), (0, -1, "no"),
                                       (10 ** 50, 10 ** 50 + 1, "yes")):
            self.worked(("if", X, Y, ("text", "yes"), ("text", "no")), value, 4, x=lesser, y=greater)
        for head, value in HEADS.items():
            if head != "number":
                self.faulted(("if", X, WRONG, WRONG, WRONG), NUMBER, value, 2, x=value)
                self.faulted(("if", ONE, X, WRONG, WRONG), NUMBER, value, 3, x=value)

    def test_is(self):
        for word in HEADS:
            for head, value in HEADS.items():
                self.worked(("is", "x", word, ("row", (X,)), ("text", "no")), [value] if head == word else "no",
                            3 if head == word else 2, x=value)
        self.worked(("is", "x", "shape", X, ONE), (("row", 1),), 2, x=(("row", 1),))
        self.worked(("is", "x", "row", ONE, X), (("row", 1),), 2, x=(("row", 1),))

    def test_has(self):
        for value, answer in (((("a", 1),), 1), ((("a", 1), ("b", 2)), 1), ((("b", 2), ("c", 3)), 2), ((("aa", 1),), 2),
                              ({"a": 1}, 2), (["a"], 2), ("a", 2), (1, 2), ((("b", (("a", 1),)),), 2)):
            self.worked(("has", "x", "a", ONE, TWO), answer, 2, x=value)
        self.worked(("has", "x", "shape", ONE, TWO), 2, 2, x=(("a", 1),))

    def test_the_way_that_is_not_gone(self):
        for gone in (WRONG, LONG):
            self.worked(("if", ONE, TWO, X, gone), 7, 4, x=7)
            self.worked(("if", TWO, TWO, gone, X), 7, 4, x=7)
            self.worked(("is", "x", "number", X, gone), 7, 2, x=7)
            self.worked(("is", "x", "text", gone, X), 7, 2, x=7)
            self.worked(("has", "x", "a", gone, X), 7, 2, x=7)
            self.worked(("has", "x", "a", X, gone), (("a", 7),), 2, x=(("a", 7),))

    def test_what_stands_in_the_place_is_always_worked_out(self):
        self.faulted(("at", X, ("num", 0), WRONG), NUMBER, "wrong", 5, x=[7])
        self.faulted(("look", X, WORD, WRONG), NUMBER, "wrong", 5, x={"x": 7})
        self.worked(("at", X, ("num", 0), LONG), 7, 3 + 1 + 51 + 50 * 51 + 50, x=[7])


class Order(RunCases):

    @staticmethod
    def wrong(value):
        """A part that comes to a fault for this value, the fault of which takes two of breath."""
        return ("size", ("num", value))

    def test_the_first_of_several_faults(self):
        one, other, third = self.wrong(1), self.wrong(2), self.wrong(3)
        for body, before in ((("row", (one, other)), 1), (("shape", (("a", one), ("b", other))), 1),
                             (("plus", one, other), 1), (("minus", one, other), 1), (("join", one, other), 1),
                             (("push", one, other), 1), (("at", one, other, third), 1), (("put", one, other, third), 1),
                             (("look", one, other, third), 1), (("let", "y", one, other), 1),
                             (("each", "y", one, other), 1), (("fold", "y", one, "z", NUMBER, other, third), 1),
                             (("if", one, other, third, third), 1), (("call", "two", (), (one, other)), 1),
                             (("get", one, "a"), 1), (("size", one), 1)):
            self.faulted(body, SIZED, 1, before + 2)

    EARLIER = [function(("row", (X, Y)), (("x", NUMBER), ("y", NUMBER)), row(NUMBER), named="two")]

    def test_a_fault_is_told_as_soon_as_its_part_is_worked_out(self):
        for body, due, takes in (
                (("plus", WORD, self.wrong(1)), NUMBER, 2), (("minus", WORD, self.wrong(1)), NUMBER, 2),
                (("if", WORD, self.wrong(1), ONE, ONE), NUMBER, 2), (("put", WORD, self.wrong(1), ONE), SOME_BOOK, 2),
                (("put", ("nobook", TEXT), ONE, self.wrong(1)), TEXT, 3),
                (("at", ("norow", TEXT), WORD, self.wrong(1)), NUMBER, 3),
                (("fold", "y", WORD, "z", NUMBER, self.wrong(1), ONE), SOME_ROW, 2),
                (("push", WORD, self.wrong(1)), SOME_ROW, 2), (("join", ONE, self.wrong(1)), TEXT, 2)):
            self.faulted(body, due, 1 if due == TEXT else "x", takes)

    def test_each_element_in_turn(self):
        self.faulted(("each", "y", X, ("plus", Y, ONE)), NUMBER, "a", 2 + 3 + 2, x=[1, "a", "b"])
        self.faulted(("fold", "y", X, "z", NUMBER, ONE, ("plus", name("z"), Y)), NUMBER, "a", 3 + 3 + 3, x=[1, "a", "b"])
        # f comes ahead of the elements.
        self.faulted(("fold", "y", X, "z", NUMBER, self.wrong(5), ("plus", Y, ONE)), SIZED, 5, 4, x=["a"])

    def test_the_value_at_fault_is_whole(self):
        value = [[1, {"k": (("a", 2),)}], "x"]
        self.faulted(("plus", ONE, X), NUMBER, value, 3, x=value)
        self.faulted(("plus", ("push", X, ONE), ONE), NUMBER, value + [1], 4 + 3, x=value)

    def test_tired_ahead_of_a_fault_and_a_fault_ahead_of_tired(self):
        # The breath of what join makes is taken ahead of the fault that is behind it.
        self.faulted(("plus", ("join", WORD, WORD), ONE), NUMBER, "xx", 4 + 2)
        self.faulted(("row", (self.wrong(1), LONG)), SIZED, 1, 3)
        self.faulted(("each", "y", X, ("size", Y)), SIZED, 1, 4, x=[1] * 100)


class Calls(RunCases):

    NAMES = (("x", NUMBER), ("y", NUMBER))
    EARLIER = [
        function(ONE, named="none"),
        function(("row", (Y, X)), NAMES, named="two"),
        function(("call", "two", (), (X, ("call", "none", (), ()))), (("x", NUMBER),), named="three"),
        function(X, (("x", A),), A, (("A", NUMBER + TEXT),), named="same"),
        function(("plus", X, ONE), (("x", NUMBER),), named="next"),
    ]

    def test_calls(self):
        self.worked(("call", "none", (), ()), 1, 2)
        self.worked(("call", "two", (), (ONE, TWO)), [2, 1], 3 + 3)
        self.worked(("call", "three", (), (TWO,)), [1, 2], 2 + 1 + 1 + 2 + 3)
        self.worked(("call", "two", (), (X, ("plus", X, ONE))), [6, 5], 1 + 1 + 3 + 3, x=5)

    def test_only_its_own_params_are_known_in_a_function(self):
        self.worked(("let", "x", WORD, ("row", (("call", "two", (), (ONE, X)), X, Y))), [["x", 1], "x", 9], 3 + 3 + 3 + 2,
                    x=8, y=9)
        self.worked(("call", "same", (NUMBER,), (("call", "same", (NUMBER,), (X,)),)), 8, 5, x=8)

    def test_a_name_may_be_called_as_a_function_is(self):
        self.worked(("call", "next", (), (name("next"),)), 9, 2 + 3, next=8)

    def test_letters(self):
        for kind in (NUMBER, TEXT, NUMBER + TEXT):
            for value in (5, "a"):
                self.worked(("call", "same", (kind,), (X,)), value, 3, x=value)

    def test_nothing_is_asked_of_calls_and_results(self):
        # Neither kinds given to letters, nor params, nor results are looked after in a run.
        for value in HEADS.values():
            self.worked(("call", "same", (row(TEXT),), (X,)), value, 3, x=value)
            self.worked(("call", "two", (), (X, X)), [value, value], 3 + 3, x=value)
        self.faulted(("call", "next", (), (WORD,)), NUMBER, "x", 2 + 2)
        self.faulted(("plus", ("call", "two", (), (ONE, TWO)), ONE), NUMBER, [2, 1], 4 + 3)

    def test_functions_as_many_and_as_deep_as_may_be(self):
        functions = []
        for at in range(12):
            body = ("call", functions[-1][0], (), ()) if functions else ONE
            for wraps in range(11):
                body = [("row", (body,)), ("let", "x", body, X), ("shape", (("a", body),)), ("if", ONE, TWO, body, ONE),
                        ("at", ("row", (body,)), ("num", 0), ONE)][(at + wraps) % 4]
            functions.append(function(body, named="f" + "abcdefghijkl"[at]))
        ending = run(functions, "fl", [], 1000)
        self.assertEqual(ending[0], "value")
        depth, value = 0, ending[1]
        while value != 1:
            value, depth = (value[0] if isinstance(value, list) else value[0][1]), depth + 1
        self.assertEqual(depth, 66)


class Breath(RunCases):

    def test_none_at_all(self):
        for body in (ONE, WORD, ("norow", NUMBER), WRONG, LONG):
            self.assertEqual(run(program(body), "f", [], 0), ("tired",))

    def test_what_is_made_of_nothing_takes_no_more(self):
        self.worked(("join", X, X), "", 3, x="")
        self.worked(("each", "y", X, ONE), [], 2, x=[])

    def test_only_what_is_made_takes_more(self):
        value = "a" * 1000
        self.worked(("row", (X, X)), [value, value], 3, x=value)
        self.worked(("let", "y", X, ("size", Y)), 1000, 4, x=value)
        self.worked(("at", X, ONE, X), 1, 4, x=[1] * 1000)
        self.worked(("put", X, WORD, Y), {"x": value}, 5, x={}, y=value)
        self.worked(("push", X, Y), [value], 4, x=[], y=value)
        self.worked(("each", "z", X, Y), [value], 4, x=[1], y=value)

    def test_long_runs(self):
        count = ("fold", "x", X, "y", NUMBER, ("num", 0), ("plus", Y, ONE))
        self.worked(count, 5000, 3 + 3 * 5000, x=[1] * 5000)
        grow = ("fold", "x", X, "y", NUMBER, ("norow", NUMBER), ("push", Y, X))
        self.worked(grow, list(range(100)), 3 + 300 + 5050, x=list(range(100)))

    def test_values_as_large_as_runs_make_them(self):
        twice = ("fold", "x", X, "y", NUMBER, ONE, ("plus", Y, Y))
        self.worked(twice, 2 ** 20000, 3 + 3 * 20000, x=[0] * 20000)
        texts = ("fold", "x", X, "y", TEXT, WORD, ("join", Y, Y))
        self.worked(texts, "x" * 2 ** 16, 3 + 48 + 2 ** 17 - 2, x=[0] * 16)
        self.assertEqual(run(program(texts, (("x", NUMBER),)), "f", [[0] * 100], 10 ** 6), ("tired",))

    def test_values_deeper_than_calls(self):
        deep = ("fold", "x", X, "y", NUMBER, ("norow", NUMBER), ("row", (Y,)))
        ending = run(program(deep, (("x", NUMBER),)), "f", [[0] * 5000], 3 + 10000)
        self.assertEqual((ending[0], ending[2]), ("value", 0))
        depth, value = 0, ending[1]
        while value:
            value, depth = value[0], depth + 1
        self.assertEqual(depth, 5000)
        # It may be told to another run, and be at fault there.
        again = run(program(("at", X, ("num", 0), ONE), (("x", NUMBER),)), "f", [ending[1]], 4)
        self.assertIs(again[1], ending[1][0])
        fault = run(program(("plus", X, ONE), (("x", NUMBER),)), "f", [ending[1]], 4)
        self.assertEqual(fault[:2], ("fault", NUMBER))
        self.assertIs(fault[2], ending[1])

    def test_rows_that_hold_one_row_many_times(self):
        twice = ("fold", "x", X, "y", NUMBER, ("norow", NUMBER), ("row", (Y, Y)))
        ending = run(program(("size", twice), (("x", NUMBER),)), "f", [[0] * 200], 1000)
        self.assertEqual(ending, ("value", 2, 1000 - 4 - 600))


class Wrong(unittest.TestCase):

    def refused(self, error, functions, word="f", told=(), breath=100):
        with self.assertRaises(SoothError) as caught:
            run(functions, word, list(told), breath)
        self.assertIs(type(caught.exception), error)

    def test_what_is_no_program(self):
        self.refused(BadProgram, None)
        self.refused(BadProgram, tuple(program(ONE)))
        self.refused(BadProgram, program(("num", True)))
        self.refused(NoName, program(X))
        self.refused(TwiceTold, program(ONE) + program(ONE))
        self.refused(BadKind, program(ONE, (), A))

    def test_parts_that_are_not_begun_are_part_of_the_program(self):
        self.refused(NoName, program(("if", ONE, TWO, ONE, X)))
        self.refused(NoName, program(ONE) + [function(X, named="g")])
        self.refused(BadProgram, program(("if", TWO, ONE, None, ONE)), breath=0)

    def test_a_name_that_is_none_of_the_program(self):
        for word in ("g", "x", "", "size"):
            self.refused(NoName, program(ONE), word)
        self.refused(NoName, [])

    def test_as_many_values_as_params(self):
        for names in ("", "x", "xyz"):
            functions = program(ONE, tuple((word, NUMBER) for word in names))
            for many in range(5):
                if many == len(names):
                    self.assertEqual(run(functions, "f", [5] * many, 9), ("value", 1, 8))
                    self.assertEqual(run(functions, "f", [5] * many, 0), ("tired",))
                else:
                    self.refused(BadCall, functions, told=[5] * many)
                    self.refused(BadCall, functions, told=[5] * many, breath=0)

    def test_what_is_told_is_a_list_of_values(self):
        functions = program(ONE, (("x", NUMBER),))
        for told in ((5,), {"x": 5}, "a", None, 5):
            with self.assertRaises(BadCall):
                run(functions, "f", told, 9)
        for value in (True, None, (), ("a", 1), (("b", 1), ("a", 1)), (("a", 1), ("a", 1)), (("A", 1),), {1: 2}, [True],
                      {"k": [(("a", False),)]}):
            self.refused(BadCall, functions, told=[value])

    def test_the_program_and_the_name_come_first(self):
        self.refused(NoName, program(ONE), "g", [1])
        self.refused(BadProgram, [None], "f", [1])
        self.refused(NoName, program(X), "f", [1])

    def test_somewhat_beyond_the_limits(self):
        value = [(("abcdefghi", 1),)]
        self.assertEqual(run(program(X, (("x", NUMBER),)), "f", [value], 1), ("value", value, 0))


class Unchanged(unittest.TestCase):

    TEXT = """
def grow(x: row(number), b: book(row(number))): book(row(number)) = put(b, "x", push(x, size(b)))
def f(x: row(number), b: book(row(number)), s: {a: row(number)}): row(book(row(number))) = [grow(x, b), \
grow(get(s, a), b), put(b, "k", each(y, x, plus(y, 1))), fold(y, x, b, book(row(number)), b, put(b, "k", x))]
"""

    def test_what_is_handed_in_stays(self):
        functions = read(self.TEXT)
        told = [[1, 2], {"k": [3]}, (("a", [4]),)]
        before = copy.deepcopy((functions, told))
        ending = run(functions, "f", told, 1000)
        self.assertEqual((functions, told), before)
        self.assertEqual(ending[:2], ("value", [
            {"k": [3], "x": [1, 2, 1]}, {"k": [3], "x": [4, 1]}, {"k": [2, 3]}, {"k": [1, 2]}]))
        self.assertEqual(run(functions, "f", told, 12), ("tired",))
        self.assertEqual((functions, told), before)

    def test_the_same_question_is_told_the_same(self):
        functions = read(self.TEXT)
        told = [[1, 2], {"k": [3]}, (("a", [4]),)]
        first = copy.deepcopy(run(functions, "f", told, 1000))
        run(functions, "grow", told[:2], 1000)
        run(program(WRONG), "f", [], 5)
        self.assertEqual(run(functions, "f", told, 1000), first)
        self.assertEqual(run(read(self.TEXT), "f", copy.deepcopy(told), 1000), first)

    def test_what_is_told_may_be_changed_behind_the_run(self):
        functions = program(("norow", NUMBER))
        run(functions, "f", [], 1)[1].append(5)
        self.assertEqual(run(functions, "f", [], 1), ("value", [], 0))
        functions = program(("row", (("nobook", NUMBER), ONE)))
        run(functions, "f", [], 3)[1][0]["k"] = 5
        self.assertEqual(run(functions, "f", [], 3), ("value", [{}, 1], 0))


class Kinds(unittest.TestCase):

    def test_numbers_are_numbers(self):
        for body in (("if", ONE, TWO, ONE, TWO), ("size", ("row", (ONE,))), ("minus", TWO, ONE)):
            value = run(program(body), "f", [], 9)[1]
            self.assertIs(type(value), int)
            self.assertTrue(is_of(value, NUMBER, {}))


if __name__ == "__main__":
    unittest.main()
