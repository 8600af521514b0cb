"""Points 5, 13 and 19: how programs are told as texts."""

import copy
import unittest

from soothcheck.errors import BadKind, BadProgram, NoName, TwiceTold
from soothcheck.telling import shown
from tests.kind_makers import A, B, NUMBER, TEXT, book, row, shape
from tests.program_makers import ONE, WORD, function, name, program

X = name("x")
Y = name("y")


class Functions(unittest.TestCase):

    def told(self, functions, text):
        with self.subTest(text=text):
            self.assertEqual(shown(functions), text)

    def test_none_one_and_many(self):
        self.told([], "")
        self.told(program(ONE), "def f(): number = 1")
        self.told([function(ONE, named="g"), function(WORD), function(X, (("x", TEXT),), TEXT, named="abcdefgh")],
                  'def g(): number = 1\ndef f(): number = "x"\ndef abcdefgh(x: text): text = x')

    def test_params_and_results(self):
        self.told(program(X, (("x", NUMBER),)), "def f(x: number): number = x")
        self.told(program(X, (("x", TEXT + NUMBER), ("y", row(TEXT)))), "def f(x: text | number, y: row(text)): number = x")
        self.told(program(X, (("y", NUMBER), ("x", book(NUMBER))), TEXT + book(TEXT + NUMBER)),
                  "def f(y: number, x: book(number)): text | book(text | number) = x")
        self.told(program(X, (("x", shape(("a", NUMBER), ("b", row(TEXT)))),)),
                  "def f(x: {a: number, b: row(text)}): number = x")

    def test_letters(self):
        self.told(program(X, (("x", A),), A, (("A", NUMBER),)), "def f<A under number>(x: A): A = x")
        self.told(program(X, (("x", A + row(B)),), B, (("B", row(NUMBER) + TEXT), ("A", shape(("a", TEXT))))),
                  "def f<B under row(number) | text, A under {a: text}>(x: A | row(B)): B = x")
        self.told(program(ONE, (), NUMBER, (("ABCDEFGH", NUMBER),)), "def f<ABCDEFGH under number>(): number = 1")

    def test_kinds_are_told_as_they_are(self):
        self.told(program(X, (("x", TEXT + NUMBER + TEXT),)), "def f(x: text | number | text): number = x")

    def test_words_of_reading(self):
        # Neither def nor under is barred as a name.
        self.told([function(name("under"), (("under", NUMBER), ("def", TEXT)), named="def"),
                   function(("call", "def", (), (ONE, WORD)), named="under")],
                  'def def(under: number, def: text): number = under\ndef under(): number = def(1, "x")')


class Parts(unittest.TestCase):

    LETTERS = (("A", NUMBER),)

    def told(self, body, text):
        with self.subTest(text=text):
            functions = [function(ONE, named="none"), function(X, (("x", B), ("y", A)), B, (("B", TEXT), ("A", TEXT)), named="two"),
                         function(body, (("x", NUMBER), ("y", NUMBER)), NUMBER, self.LETTERS)]
            rows = shown(functions).split("\n")
            self.assertEqual(len(rows), 3)
            self.assertEqual(rows[2], f"def f<A under number>(x: number, y: number): number = {text}")

    def test_numbers(self):
        for number in (0, 1, 10, -1, -10, 10 ** 30 - 1, -(10 ** 30 - 1)):
            self.told(("num", number), str(number))

    def test_texts(self):
        for text, told in (("", '""'), ("a b", '"a b"'), ('"', '"\\""'), ("\\", '"\\\\"'), ('\\"', '"\\\\\\""'),
                           ('a"b\\c\\\\""', '"a\\"b\\\\c\\\\\\\\\\"\\""'), (" ,:|=()[]{}<>", '" ,:|=()[]{}<>"'),
                           ("~'#", '"~\'#"'), ("\\n", '"\\\\n"')):
            self.told(("text", text), told)

    def test_names_rows_and_shapes(self):
        self.told(X, "x")
        self.told(("row", (X,)), "[x]")
        self.told(("row", (X, ("row", (ONE, WORD)), Y)), '[x, [1, "x"], y]')
        self.told(("shape", (("a", X),)), "{a: x}")
        self.told(("shape", (("a", X), ("b", ("shape", (("x", ONE),))))), "{a: x, b: {x: 1}}")

    def test_calls(self):
        self.told(("call", "none", (), ()), "none()")
        self.told(("call", "two", (TEXT, A + NUMBER), (X, WORD)), 'two<text, A | number>(x, "x")')
        self.told(("call", "two", (row(shape(("a", TEXT), ("b", A))), TEXT), (("call", "none", (), ()), Y)),
                  "two<row({a: text, b: A}), text>(none(), y)")

    def test_all_else_by_its_word(self):
        self.told(("norow", TEXT + A), "norow(text | A)")
        self.told(("nobook", row(TEXT)), "nobook(row(text))")
        self.told(("get", X, "a"), "get(x, a)")
        for word in ("plus", "minus", "join", "push"):
            self.told((word, X, ONE), f"{word}(x, 1)")
        self.told(("size", X), "size(x)")
        for word in ("at", "put", "look"):
            self.told((word, X, ONE, WORD), f'{word}(x, 1, "x")')
        self.told(("let", "z", X, name("z")), "let(z, x, z)")
        self.told(("each", "z", X, name("z")), "each(z, x, z)")
        self.told(("fold", "z", X, "v", NUMBER + row(A), ONE, name("v")), "fold(z, x, v, number | row(A), 1, v)")
        self.told(("if", X, Y, ONE, WORD), 'if(x, y, 1, "x")')
        for word in ("number", "text", "row", "book", "shape"):
            self.told(("is", "x", word, Y, ONE), f"is(x, {word}, y, 1)")
        self.told(("has", "x", "abcdefgh", Y, ONE), "has(x, abcdefgh, y, 1)")

    def test_names_that_are_words_of_parts(self):
        self.told(("let", "size", ONE, ("plus", name("size"), X)), "let(size, 1, plus(size, x))")
        self.told(("get", ("shape", (("call", ONE), ("get", X))), "get"), "get({call: 1, get: x}, get)")

    def test_deep(self):
        body, text = ONE, "1"
        for _ in range(11):
            body, text = ("row", (body,)), f"[{text}]"
        self.told(body, text)
        kind, text = TEXT, "text"
        for _ in range(8):
            kind, text = book(kind), f"book({text})"
        self.told(("norow", kind), f"norow({text})")

    def test_wide(self):
        self.told(("row", (ONE,) * 5000), "[" + ", ".join(["1"] * 5000) + "]")


class Wrong(unittest.TestCase):

    def test_what_is_no_program(self):
        for error, functions in ((BadProgram, None), (BadProgram, tuple(program(ONE))), (BadProgram, program(("num", True))),
                                 (BadProgram, program(("text", "%"))), (BadProgram, [function(ONE, named="size")]),
                                 (NoName, program(X)), (NoName, program(("call", "f", (), ()))),
                                 (TwiceTold, program(ONE) + program(ONE)), (BadKind, program(ONE, (), A))):
            with self.assertRaises(error) as caught:
                shown(functions)
            self.assertIs(type(caught.exception), error)

    def test_what_does_not_pass_is_told(self):
        self.assertEqual(shown(program(("plus", WORD, ONE), (), TEXT)), 'def f(): text = plus("x", 1)')


class Unchanged(unittest.TestCase):

    def test_what_is_handed_in_stays(self):
        functions = program(("row", (X, WORD)), (("x", A),), row(A + TEXT), (("A", NUMBER),))
        before = copy.deepcopy(functions)
        first = shown(functions)
        shown(program(ONE))
        self.assertEqual(shown(functions), first)
        self.assertEqual(functions, before)


if __name__ == "__main__":
    unittest.main()
