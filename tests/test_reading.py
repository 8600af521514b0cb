"""Points 13 and 20: what is read, and how it is refused what can't be read."""

import unittest

from soothcheck.errors import BadKind, BadProgram, BadText, NoName, SoothError, TwiceTold
from soothcheck.reading import read, read_kind
from soothcheck.telling import shown
from tests.kind_makers import A, B, NUMBER, TEXT, book, row, shape
from tests.program_makers import ONE, WORD, function, name, program

X = name("x")
Y = name("y")


def deep_rows(kind, many):
    for _ in range(many):
        kind = row(kind)
    return kind


class ReadCases(unittest.TestCase):

    def is_read(self, text, functions):
        with self.subTest(text=text):
            self.assertEqual(read(text), functions)

    def body_is_read(self, text, body):
        """Behind functions none, one and two, and within one with params x and y, and the letter A."""
        with self.subTest(text=text):
            told = read(self.around(text))
            self.assertEqual(told[3], ("f", (("A", NUMBER),), (("x", NUMBER), ("y", TEXT)), NUMBER, body))

    @staticmethod
    def around(text):
        return ("def none(): number = 1\ndef one(x: number): number = 1\n"
                "def two<A under text, B under text>(x: A, y: B): number = 1\n"
                f"def f<A under number>(x: number, y: text): number = {text}")

    def refused(self, text, error=BadText):
        with self.subTest(text=text):
            with self.assertRaises(SoothError) as caught:
                read(text)
            self.assertIs(type(caught.exception), error)

    def body_refused(self, text, error=BadText):
        self.refused(self.around(text), error)

    def kind_refused(self, text):
        with self.subTest(text=text):
            with self.assertRaises(BadText) as caught:
                read_kind(text)
            self.assertIs(type(caught.exception), BadText)


class Functions(ReadCases):

    def test_none_one_and_many(self):
        self.is_read("", [])
        self.is_read("def f(): number = 1", program(ONE))
        self.is_read("def g(): number = 1\ndef f(): number = g()",
                     [function(ONE, named="g"), function(("call", "g", (), ()))])

    def test_rows_that_are_empty_or_of_blanks_alone(self):
        for text in ("\n", " ", "   \n\n \n", " " * 6000, "\n" * 6000):
            self.is_read(text, [])
        self.is_read("\n   \ndef g(): number = 1\n\n  \n\ndef f(): number = 1\n", [function(ONE, named="g"), function(ONE)])

    def test_heads(self):
        self.is_read("def f(x: number): number = x", program(X, (("x", NUMBER),)))
        self.is_read("def f(x: text | number | text, y: row(text)): book(text) | number = x",
                     program(X, (("x", TEXT + NUMBER + TEXT), ("y", row(TEXT))), book(TEXT) + NUMBER))
        self.is_read("def f<B under text | row(number), A under {a: text}>(x: A | row(B)): B = x",
                     program(X, (("x", A + row(B)),), B, (("B", TEXT + row(NUMBER)), ("A", shape(("a", TEXT))))))
        self.is_read("def abcdefgh<ABCDEFGH under number>(abcdefgh: ABCDEFGH): {abcdefgh: number} = abcdefgh",
                     [function(name("abcdefgh"), (("abcdefgh", (("letter", "ABCDEFGH"),)),), shape(("abcdefgh", NUMBER)),
                               (("ABCDEFGH", NUMBER),), "abcdefgh")])

    def test_words_of_reading(self):
        self.is_read("def def(def: number, under: number): number = under",
                     [function(name("under"), (("def", NUMBER), ("under", NUMBER)), named="def")])
        self.is_read("def under<A under number>(text: A, row: A): A = text",
                     [function(name("text"), (("text", A), ("row", A)), A, (("A", NUMBER),), "under")])

    def test_more_than_blanks_where_a_function_ends_or_begins(self):
        for text in ("def f(): number = 1 2", "def f(): number = 1)", "def f(): number = 1;", "def f(): number = x y",
                     "def f(): number = 1 def g(): number = 1", "; def f(): number = 1", "f(): number = 1", "def",
                     "def f", "def f()", "def f():", "def f(): number", "def f(): number =", "x", "1", "def f() = 1",
                     "def f(): = 1", "def f: number = 1", "def (): number = 1", "def f(): number 1", "def f() number = 1",
                     "def f():: number = 1", "def f(): number == 1", "DEF f(): number = 1", "def F(): number = 1",
                     "def f1(): number = 1", "def f_(): number = 1", "de f(): number = 1", "define f(): number = 1"):
            self.refused(text)

    def test_a_function_stands_in_one_row(self):
        self.refused("def f(): number\n= 1")
        self.refused("def f(): number =\n1")
        self.refused('def f(): text = "a\nb"')
        self.refused("def f(x: number,\ny: number): number = 1")

    def test_only_blanks_are_blanks(self):
        for sign in ("\t", "\r", "\x0b", "\x0c", "\xa0", "_", "#"):
            self.refused(f"def f():{sign}number = 1")
            self.refused(f"def f(): number = 1{sign}")
            self.refused(f"def{sign}f(): number = 1")
            self.refused(f"{sign}\ndef f(): number = 1")
            self.kind_refused(f"number{sign}| text")
            self.kind_refused(f"{sign}number")
        self.refused("def f(): number = 1\r\ndef g(): number = 1")
        self.kind_refused("number\n")
        self.kind_refused("number\n| text")

    def test_params_and_letters_that_cannot_be_read(self):
        for text in ("def f(x): number = 1", "def f(x number): number = 1", "def f(x:): number = 1",
                     "def f(x: number,): number = 1", "def f(, x: number): number = 1", "def f(,): number = 1",
                     "def f(x: number y: number): number = 1", "def f(x: number; y: number): number = 1",
                     "def f(X: number): number = 1", "def f(x: number: number = 1", "def f(x: 1): number = 1",
                     "def f<>(): number = 1", "def f< >(): number = 1", "def f<A>(): number = 1",
                     "def f<A under>(): number = 1", "def f<A under >(): number = 1", "def f<under number>(): number = 1",
                     "def f<a under number>(): number = 1", "def f<A over number>(): number = 1",
                     "def f<A: number>(): number = 1", "def f<A under number,>(): number = 1",
                     "def f<A under number, >(): number = 1", "def f<A under number B under text>(): number = 1",
                     "def f<A under number(): number = 1", "def f(x: number)<A under number>: number = 1"):
            self.refused(text)

    def test_what_is_read_and_is_no_program(self):
        for error, text in (
                (BadProgram, "\n".join(f"def f{sign}(): number = 1" for sign in "abcdefghijklm")),
                (BadProgram, "def size(): number = 1"), (BadProgram, "def num(): number = 1"),
                (TwiceTold, "def f(): number = 1\ndef f(): number = 1"), (TwiceTold, "def f(x: text, x: text): text = x"),
                (TwiceTold, "def f<A under text, A under text>(): text = x"), (BadKind, "def f(): A = 1"),
                (BadKind, "def f<A under number, B under A>(): number = 1"), (BadKind, "def f(x: {b: text, a: text}): text = x"),
                (BadKind, "def f(x: {a: text, a: text}): text = x"), (BadKind, f"def f(x: {'row(' * 9}text{')' * 9}): text = x"),
                (NoName, "def f(): number = g()\ndef g(): number = 1"), (NoName, "def f(): number = f()")):
            self.refused(text, error)
        # A text that can't be read is refused so, whatever else it tells.
        self.refused("def f(): number = x\ndef g(): number = ")
        self.refused("def size(): A = x\ndef f(")


class Parts(ReadCases):

    def test_names_rows_shapes_and_calls(self):
        for text, body in (
                ("x", X), ("[x]", ("row", (X,))), ("[x, [1, \"x\"], y]", ("row", (X, ("row", (ONE, WORD)), Y))),
                ("{a: x}", ("shape", (("a", X),))), ("{a: {b: 1}, b: y}", ("shape", (("a", ("shape", (("b", ONE),))), ("b", Y)))),
                ("none()", ("call", "none", (), ())), ("one(x)", ("call", "one", (), (X,))),
                ("two<text, A | number>(x, \"x\")", ("call", "two", (TEXT, A + NUMBER), (X, WORD))),
                ("one([one(x)])", ("call", "one", (), (("row", (("call", "one", (), (X,)),)),)))):
            self.body_is_read(text, body)

    def test_all_else_by_its_word(self):
        for text, body in (
                ("norow(text | A)", ("norow", TEXT + A)), ("nobook({a: text})", ("nobook", shape(("a", TEXT)))),
                ("get(x, a)", ("get", X, "a")), ("plus(x, 1)", ("plus", X, ONE)), ("minus(x, 1)", ("minus", X, ONE)),
                ("join(y, y)", ("join", Y, Y)), ("size(y)", ("size", Y)), ("push([1], x)", ("push", ("row", (ONE,)), X)),
                ("at([1], x, y)", ("at", ("row", (ONE,)), X, Y)),
                ("put(nobook(A), y, x)", ("put", ("nobook", A), Y, X)),
                ("look(nobook(A), y, x)", ("look", ("nobook", A), Y, X)), ("let(z, x, z)", ("let", "z", X, name("z"))),
                ("each(z, [1], z)", ("each", "z", ("row", (ONE,)), name("z"))),
                ("fold(z, [1], v, number | row(A), 1, v)",
                 ("fold", "z", ("row", (ONE,)), "v", NUMBER + row(A), ONE, name("v"))),
                ("if(x, 1, y, x)", ("if", X, ONE, Y, X)), ("is(x, number, y, x)", ("is", "x", "number", Y, X)),
                ("is(x, shape, y, x)", ("is", "x", "shape", Y, X)), ("has(x, abcdefgh, y, x)", ("has", "x", "abcdefgh", Y, X)),
                ("let(size, 1, plus(size, x))", ("let", "size", ONE, ("plus", name("size"), X))),
                ("get({call: 1, get: x}, get)", ("get", ("shape", (("call", ONE), ("get", X))), "get"))):
            self.body_is_read(text, body)

    def test_what_cannot_be_read(self):
        for text in ("[]", "[ ]", "{}", "{ }", "none<>()", "none< >()", "[1", "1]", "[1)", "(1)", "()", "[1 2]", "[1,]", "[,1]",
                     "[1,,2]", "{a}", "{a 1}", "{a: }", "{: 1}", "{a: 1,}", "{a: 1 b: 2}", "{1: 1}", "{A: 1}", "{\"a\": 1}",
                     "one(x", "one x", "one(x,)", "one(,)", "one<text>", "one<text>x", "one<text,>(x)", "one<text(x)", "one(x)(x)",
                     "one<1>(x)", "one()<text>", "A", "A(x)", "<text>(x)", "x.a", "x + 1", "x, 1", "'x'", "X", "x=1", ""):
            self.body_refused(text)

    def test_words_with_too_little_or_too_much_behind(self):
        for text in ("norow()", "norow(1)", "norow(text, text)", "nobook()", "get(x)", "get(x, a, b)", "get(x, 1)", "get(x, A)",
                     "get(a)", "plus(x)", "plus(x, x, x)", "plus()", "minus(1)", "join(y)", "size()", "size(x, x)",
                     "push(x)", "at(x, x)", "at(x, x, x, x)", "put(x, x)", "look(x, x)", "let(z, x)", "let(1, x, z)",
                     "let(Z, x, x)", "let(z, x, z, z)", "each(z, x)", "each([1], z, z)", "fold(z, [1], v, 1, v)",
                     "fold(z, [1], v, 1, 1, v)", "fold(z, [1], v, number, v)", "fold(z, [1], 1, number, 1, v)", "if(x, x, x)",
                     "if(x, x, x, x, x)", "is(x, number, x)", "is(1, number, x, x)", "is([x], number, x, x)",
                     "is(x, \"number\", x, x)", "has(x, a, x)", "has(x, 1, x, x)", "plus<number>(x, x)", "plus[x, x]", "plus(x; x)",
                     "plus(x x)", "plus(x, x", "norow(some row)", "norow(A(number))", "norow(numbers)"):
            self.body_refused(text)
        # Without brackets it could be a name.
        self.body_refused("plus", NoName)

    def test_what_is_read_and_is_no_program(self):
        for error, text in (
                (NoName, "z"), (NoName, "three(x)"), (NoName, "f(x)"), (NoName, "is(z, number, x, x)"), (NoName, "row(x)"),
                (NoName, "let(z, z, x)"), (BadProgram, "one()"), (BadProgram, "one<text>(x)"), (BadProgram, "two(x, y)"),
                (BadProgram, "two<text>(x, y)"), (BadProgram, "is(x, numbr, x, x)"), (BadProgram, "is(x, some, x, x)"),
                (BadProgram, "{b: 1, a: 1}"), (BadProgram, "{a: 1, a: 1}"), (BadProgram, "\"%\""), (BadProgram, "\"\t\""),
                (BadProgram, "\"\x7f\""), (BadProgram, "\"\xe4\""), (TwiceTold, "fold(z, [1], z, number, 1, z)"),
                (BadKind, "norow(B)"), (BadKind, "norow({b: text, a: text})"), (BadKind, "two<B, text>(x, y)"),
                (BadProgram, "[" * 12 + "1" + "]" * 12), (BadKind, "norow(" + "row(" * 9 + "text" + ")" * 10)):
            self.body_refused(text, error)
        body = ONE
        for _ in range(11):
            body = ("row", (body,))
        self.body_is_read("[" * 11 + "1" + "]" * 11, body)
        self.body_is_read("norow(" + "row(" * 8 + "text" + ")" * 9, ("norow", deep_rows(TEXT, 8)))


class Numbers(ReadCases):

    def test_numbers(self):
        for number in (0, 1, 9, 10, 100, 1234567890, 10 ** 29, 10 ** 30 - 1):
            self.body_is_read(str(number), ("num", number))
            if number > 0:
                self.body_is_read(f"-{number}", ("num", -number))
                self.body_is_read(f"[-{number},{number}]", ("row", (("num", -number), ("num", number))))

    def test_figures(self):
        for figures in ("1" * 30, "9" * 30, "1" + "0" * 29):
            self.body_is_read(figures, ("num", int(figures)))
            self.body_is_read("-" + figures, ("num", -int(figures)))
        for figures in ("1" * 31, "9" * 31, "1" + "0" * 30, "1" * 300, "0" * 31):
            self.body_refused(figures)
            self.body_refused("-" + figures)

    def test_what_is_no_number(self):
        for text in ("00", "01", "007", "-0", "-01", "-00", "- 1", "-  1", "--1", "+1", "-", "- ", "-x", "1-", "1.", "1.0", ".5",
                     "1e3", "0x1", "1_0", "1 0", "- 0", "1x", "1\"a\"", "1[", "\u0661", "\xb2"):
            self.body_refused(text)
            self.body_refused(f"[{text}]")
            self.body_refused(f"plus({text}, 1)")


class Texts(ReadCases):

    def test_texts(self):
        for text, told in (('""', ""), ('"a b"', "a b"), ('"\\""', '"'), ('"\\\\"', "\\"), ('"\\\\\\""', '\\"'),
                           ('"\\"\\\\"', '"\\'), ('"\\\\\\\\"', "\\\\"), ('"\\\\n"', "\\n"), ('" [(<{"', " [(<{"),
                           ('")]>}"', ")]>}"), ('"  "', "  "), ('"def f(): number = 1"', "def f(): number = 1"),
                           ('"\'~!#"', "'~!#")):
            self.body_is_read(text, ("text", told))
            self.body_is_read(f"[{text}, {text}]", ("row", (("text", told), ("text", told))))

    def test_all_signs(self):
        signs = "".join(chr(at) for at in range(32, 127) if chr(at) != "%")
        self.body_is_read('"' + signs.replace("\\", "\\\\").replace('"', '\\"') + '"', ("text", signs))

    def test_texts_that_do_not_end(self):
        for text in ('"', '"a', '"a\\"', '"\\', '"\\\\\\"', '["a]', '"a""', '"a" "', 'join("a", "b)'):
            self.body_refused(text)
        self.refused('def f(): text = "a\n"')
        self.refused('def f(): text = "a\ndef g(): text = "b"')

    def test_nothing_else_has_a_backslash_ahead(self):
        for text in ('"\\n"', '"\\a"', '"\\ "', "\"\\'\"", '"\\/"', '\\"a"', '"a"\\'):
            self.body_refused(text)

    def test_texts_side_by_side(self):
        for text in ('"a""b"', '"a" "b"', 'x"a"', '"a"x', '"a"1'):
            self.body_refused(text)


class Blanks(ReadCases):

    TOLD = ('def g<A under number | text, B under {a: number, b: row(text)}>(x: A, y: row(B)): {a: A} | row(B) = '
            'is(x, number, {a: x}, push(y, {a: -12, b: ["q \\" | ", ""]}))\n'
            'def f(): number = fold(x, [1, 2], y, number | text, 0, size(g<number, {a: number, b: row(text)}>(x, '
            'norow({a: number, b: row(text)}))))')
    WORDS = ["def ", "g", "<", "A", " under ", "number", "|", "text", ",", "B", " under ", "{", "a", ":", "number", ",", "b",
             ":", "row", "(", "text", ")", "}", ">", "(", "x", ":", "A", ",", "y", ":", "row", "(", "B", ")", ")", ":", "{",
             "a", ":", "A", "}", "|", "row", "(", "B", ")", "=", "is", "(", "x", ",", "number", ",", "{", "a", ":", "x", "}",
             ",", "push", "(", "y", ",", "{", "a", ":", "-12", ",", "b", ":", "[", '"q \\" | "', ",", '""', "]", "}", ")", ")"]
    REST = ["def ", "f", "(", ")", ":", "number", "=", "fold", "(", "x", ",", "[", "1", ",", "2", "]", ",", "y", ",", "number",
            "|", "text", ",", "0", ",", "size", "(", "g", "<", "number", ",", "{", "a", ":", "number", ",", "b", ":", "row",
            "(", "text", ")", "}", ">", "(", "x", ",", "norow", "(", "{", "a", ":", "number", ",", "b", ":", "row", "(",
            "text", ")", "}", ")", ")", ")", ")"]

    def test_any_or_none(self):
        functions = read(self.TOLD)
        self.assertEqual(shown(functions), self.TOLD)
        for blanks in ("", " ", "  ", " " * 7):
            self.is_read(blanks.join(self.WORDS) + "\n" + blanks.join(self.REST), functions)
            self.is_read(blanks + blanks.join(self.WORDS) + blanks + "\n" + blanks + blanks.join(self.REST) + blanks, functions)

    def test_each_place(self):
        words = self.WORDS
        functions = read("".join(words))
        for at in range(len(words) + 1):
            self.is_read("".join(words[:at]) + "   " + "".join(words[at:]), functions)

    def test_behind_def(self):
        self.refused("deff(): number = 1")
        self.refused("def(): number = 1")
        self.is_read("def    f(): number = 1", program(ONE))

    def test_on_both_sides_of_under(self):
        functions = program(ONE, (), NUMBER, (("A", shape(("a", TEXT))),))
        for text in ("A under {a: text}", " A   under   { a : text } "):
            self.is_read(f"def f<{text}>(): number = 1", functions)
        for text in ("Aunder {a: text}", "A under{a: text}", "Aunder{a: text}", "A undernumber", "A un der number",
                     "Aunder number", "Aundernumber", "A u nder number"):
            self.refused(f"def f<{text}>(): number = 1")

    def test_none_within_words(self):
        for text in ("pl us(x, x)", "si ze(x)", "no ne()", "norow(num ber)", "norow(te xt)", "1 2", "two<te xt, text>(x, y)"):
            self.body_refused(text)


class Limits(ReadCases):

    def test_signs(self):
        row_of_text = "def f(): number = 1"
        for text in (row_of_text + " " * (6000 - len(row_of_text)), row_of_text + "\n" * (6000 - len(row_of_text)),
                     row_of_text.replace(" = ", " " * (6000 - len(row_of_text)) + " = ")):
            self.assertEqual(len(text), 6000)
            self.is_read(text, program(ONE))
            self.refused(text + " ")
            self.refused(text + "\n")
            self.refused(" " + text)
        long = "a" * (6000 - len('def f(): text = ""'))
        self.is_read(f'def f(): text = "{long}"', program(("text", long), (), TEXT))
        self.refused(f'def f(): text = "{long}a"')
        self.refused(" " * 6001)
        self.refused("\n" * 6001)
        self.refused("x" * 100000)

    def test_brackets_of_parts(self):
        for beginning, ending in (("[", "]"), ("{a: ", "}"), ("size(", ")"), ("one(", ")"), ("none<number>(", ")")):
            for many, error in ((12, BadProgram), (13, BadProgram), (40, BadProgram), (41, BadText), (42, BadText), (300, BadText)):
                self.body_refused(beginning * many + "1" + ending * many, error)

    def test_brackets_of_several_sorts(self):
        inner = "norow(" + "row(" * 8 + "{a: text}" + ")" * 9
        self.body_refused("[" * 30 + inner + "]" * 30, BadProgram)
        self.body_refused("[" * 31 + inner + "]" * 31, BadText)
        # Angles count, too: those of a call end before its round ones begin.
        for kind in ("{a: " * 37 + "text" + "}" * 37, "row(" * 37 + "text" + ")" * 37):
            self.body_refused(f"[[two<{kind}, text>(x, y)]]", BadKind)
            self.body_refused(f"[[[two<{kind}, text>(x, y)]]]", BadText)
        self.refused("def f<A under " + "row(" * 39 + "text" + ")" * 39 + ">(): number = 1", BadKind)
        self.refused("def f<A under " + "row(" * 40 + "text" + ")" * 40 + ">(): number = 1", BadText)
        self.refused("def f(x: " + "row(" * 39 + "text" + ")" * 39 + "): number = 1", BadKind)
        self.refused("def f(x: " + "row(" * 40 + "text" + ")" * 40 + "): number = 1", BadText)
        self.refused("def f(): " + "row(" * 40 + "text" + ")" * 40 + " = 1", BadKind)
        self.refused("def f(): " + "row(" * 41 + "text" + ")" * 41 + " = 1", BadText)

    def test_many_brackets_side_by_side(self):
        self.body_is_read("[" + ", ".join(["[one(x)]"] * 500) + "]", ("row", (("row", (("call", "one", (), (X,)),)),) * 500))
        self.is_read("def f(x: " + " | ".join(["row(text)"] * 450) + "): text = x",
                     program(X, (("x", row(TEXT) * 450),), TEXT))
        self.body_is_read("plus(size([x]), size([x]))", ("plus",) + (("size", ("row", (X,))),) * 2)

    def test_brackets_within_texts_do_not_count(self):
        for brackets in ("(" * 500, "[{<(" * 20, ")" * 41, "<" * 41):
            self.body_is_read(f'["{brackets}"]', ("row", (("text", brackets),)))

    def test_brackets_that_do_not_end(self):
        for sign in "([{<":
            for many in (1, 39, 40, 41, 5000):
                self.body_refused(sign * many)
                self.kind_refused(sign * many)
        for text in ("[1)", "{a: 1]", "size(x]", "two<text, text)(x, y>", "[[1]", "[1]]", "one(x))"):
            self.body_refused(text)

    def test_words_of_eight_and_nine_letters(self):
        eight, nine = "abcdefgh", "abcdefghi"
        for text in ("def {0}(): number = 1", "def f({0}: number): number = {0}", "def f(x: {{{0}: text}}): number = x",
                     "def f(): number = {{{0}: 1}}", "def f(): number = let({0}, 1, {0})", "def f(): number = get(1, {0})",
                     "def f(x: number): number = has(x, {0}, 1, 1)"):
            self.assertEqual(len(read(text.format(eight))), 1)
            self.refused(text.format(nine))
        self.refused(f"def f(): number = {eight}", NoName)
        self.refused(f"def f(): number = {nine}")
        self.refused(f"def f(): number = {eight}(1)", NoName)
        self.refused(f"def f(): number = {nine}(1)")
        self.refused(f"def f(x: number): number = is(x, {eight}, 1, 1)", BadProgram)
        self.refused(f"def f(x: number): number = is(x, {nine}, 1, 1)")
        for letter, error in ((eight.upper(), None), (nine.upper(), BadText)):
            text = f"def f<{letter} under number>(x: {letter}): row({letter}) = [x]"
            if error is None:
                self.assertEqual(shown(read(text)), text)
            else:
                self.refused(text, error)
                self.refused(f"def f(x: {letter}): number = 1", error)
        self.kind_refused(nine.upper())
        self.kind_refused(f"{{{nine}: text}}")
        self.assertEqual(read_kind(f"{{{eight}: {eight.upper()}}}"), shape((eight, (("letter", eight.upper()),))))


class Kinds(ReadCases):

    def test_kinds(self):
        for text, kind in (
                ("number", NUMBER), ("text", TEXT), ("A", A), ("ABCDEFGH", (("letter", "ABCDEFGH"),)), ("row(number)", row(NUMBER)),
                ("book(A | text)", book(A + TEXT)), ("{a: number}", shape(("a", NUMBER))),
                ("{a: {b: row(A)}, c: text | B}", shape(("a", shape(("b", row(A)))), ("c", TEXT + B))),
                ("text | number | text", TEXT + NUMBER + TEXT), ("A | row(A) | B", A + row(A) + B),
                ("row(row(book(text)))", row(row(book(TEXT)))), ("{row: row(text), text: text}",
                                                                 shape(("row", row(TEXT)), ("text", TEXT)))):
            with self.subTest(text=text):
                self.assertEqual(read_kind(text), kind)

    def test_blanks(self):
        for text in ("row({a:number|A,b:text})|B", "row({a: number | A, b: text}) | B",
                     "  row  (  {  a  :  number  |  A  ,  b  :  text  }  )  |  B  "):
            self.assertEqual(read_kind(text), row(shape(("a", NUMBER + A), ("b", TEXT))) + B)

    def test_it_is_looked_at_no_further(self):
        self.assertEqual(read_kind("{b: text, a: A, b: text}"), shape(("b", TEXT), ("a", A), ("b", TEXT)))
        for many in (8, 9, 40):
            self.assertEqual(read_kind("row(" * many + "Z" + ")" * many), deep_rows((("letter", "Z"),), many))

    def test_what_cannot_be_read(self):
        for text in ("", " ", "numbers", "num", "row", "book", "row()", "book( )", "row[text]", "row(text", "row(text))", "row text",
                     "{}", "{ }", "{a}", "{a: }", "{a text}", "{a: text,}", "{, a: text}", "{a: text b: text}", "{A: text}",
                     "{1: text}", "{a: text", "a: text}", "|", "text |", "| text", "text || text", "text text", "text, text",
                     "(text)", "shape", "letter", "norow(text)", "1", "\"text\"", "A B", "Ab", "aB", "A1", "number(text)", "A()",
                     "A(number)", "A(number, text)", "A (text)", "row(A(number))", "A(shape a)", "some row", "some book", "with a",
                     "somerow", "row(some row)", "<A>", "A under text", "{a: A(number)}"):
            self.kind_refused(text)

    def test_limits(self):
        for beginning, ending in (("row(", ")"), ("book(", ")"), ("{a: ", "}")):
            self.assertEqual(len(read_kind(beginning * 40 + "text" + ending * 40)), 1)
            self.kind_refused(beginning * 41 + "text" + ending * 41)
            self.kind_refused(beginning * 300 + "text" + ending * 300)
        self.assertEqual(read_kind(" | ".join(["row(row(A))"] * 400)), row(row(A)) * 400)
        self.assertEqual(read_kind("text" + " " * 5996), TEXT)
        self.kind_refused("text" + " " * 5997)
        self.kind_refused(" " * 5997 + "text")


if __name__ == "__main__":
    unittest.main()
