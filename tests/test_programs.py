"""Points 11 to 13 and 1: what is a program, what need_program tells, and what it refuses with which error."""

import copy
import unittest

from soothcheck.errors import BadKind, BadProgram, NoName, TwiceTold
from soothcheck.programs import need_program
from tests.kind_makers import A, B, NUMBER, TEXT, book, cut, row, shape
from tests.program_makers import ONE, WORD, function, name, nested, program

LETTERS = (("A", NUMBER + TEXT), ("B", NUMBER))
PARAMS = (("x", NUMBER), ("r", row(TEXT)))
X = name("x")
# Functions that are told ahead of the one that is looked at.
EARLIER = [
    function(ONE, named="none"),
    function(X, (("x", A), ("y", row(B))), A, LETTERS, named="some"),
]

GOOD_PARTS = [
    ("num", 0), ("num", -7), ("num", 10 ** 30 - 1), ("num", 1 - 10 ** 30),
    ("text", ""), ("text", " !$&~"), ("text", '"\\\'#'), ("text", "x" * 7000),
    ("name", "x"), ("name", "r"),
    ("row", (ONE,)), ("row", (ONE, WORD, X)),
    ("norow", NUMBER), ("norow", A + row(B)), ("nobook", TEXT), ("nobook", book(A)),
    ("shape", (("a", ONE),)), ("shape", (("a", ONE), ("ab", X), ("b", WORD))), ("shape", (("abcdefgh", ONE),)),
    ("get", X, "a"), ("get", X, "abcdefgh"),
    ("plus", ONE, X), ("minus", ONE, X), ("join", WORD, WORD), ("size", X),
    ("push", X, ONE), ("at", X, ONE, WORD), ("put", X, WORD, ONE), ("look", X, WORD, ONE),
    ("let", "y", ONE, X), ("each", "y", X, ONE), ("fold", "y", X, "z", NUMBER, ONE, ONE),
    ("if", ONE, X, WORD, X),
    ("is", "x", "number", ONE, X), ("is", "x", "text", ONE, X), ("is", "x", "row", ONE, X),
    ("is", "r", "book", ONE, X), ("is", "r", "shape", ONE, X),
    ("has", "x", "a", ONE, X), ("has", "r", "abcdefgh", ONE, X),
    ("call", "none", (), ()), ("call", "some", (A, NUMBER), (X, ONE)), ("call", "some", (row(B), B), (WORD, X)),
]

NO_PARTS = [
    None, 0, True, "num", "", (), [], {}, ("num",), ("num", 1, 2), ["num", 1], (["num"], 1), (None, 1), (1, 2),
    ("Num", 1), ("number", 1), ("", 1), ("nums", 1), ("book", (ONE,)), (("num", 1),), ("cut", "A", ("number",)),
    ("num", True), ("num", False), ("num", "1"), ("num", None), ("num", 1.0), ("num", 10 ** 30), ("num", -10 ** 30),
    ("num", ONE), ("num", [1]),
    ("text",), ("text", 1), ("text", None), ("text", b"x"), ("text", ["x"]), ("text", "50%"), ("text", "\n"),
    ("text", "a\tb"), ("text", "\x7f"), ("text", "\x1f"), ("text", "\u00e4"), ("text", "%"), ("text", "x", "y"),
    ("name",), ("name", 1), ("name", None), ("name", ["x"]), ("name", ("x",)), ("name", "x", "x"),
    ("row",), ("row", ()), ("row", [ONE]), ("row", ONE), ("row", (ONE, None)), ("row", (ONE, 1)), ("row", ONE, ONE),
    ("row", "x"), ("row", {}), ("row", None), ("row", ((ONE,),)),
    ("norow",), ("norow", NUMBER, NUMBER), ("nobook",), ("nobook", NUMBER, NUMBER),
    ("shape",), ("shape", ()), ("shape", ("a", ONE)), ("shape", [("a", ONE)]), ("shape", {"a": ONE}),
    ("shape", (["a", ONE],)), ("shape", (("a",),)), ("shape", (("a", ONE, ONE),)), ("shape", (("a", 1),)),
    ("shape", (("a", None),)), ("shape", (("b", ONE), ("a", ONE))), ("shape", (("a", ONE), ("a", ONE))),
    ("shape", (("A", ONE),)), ("shape", (("", ONE),)), ("shape", (("abcdefghi", ONE),)), ("shape", ((1, ONE),)),
    ("shape", (("a b", ONE),)), ("shape", (("a", ONE), ("b1", ONE))), ("shape", "a"), ("shape", None),
    ("get", X), ("get", X, "a", "b"), ("get", "x", "a"), ("get", X, "A"), ("get", X, ""), ("get", X, "abcdefghi"),
    ("get", X, None), ("get", X, ("a",)), ("get", X, ["a"]), ("get", X, X), ("get", None, "a"),
    ("plus", ONE), ("plus", ONE, ONE, ONE), ("plus", 1, ONE), ("plus", ONE, 1), ("minus", ONE), ("minus", 1, ONE),
    ("minus", ONE, None), ("minus", ONE, ONE, ONE),
    ("join", WORD), ("join", WORD, WORD, WORD), ("join", "x", WORD), ("join", WORD, "x"),
    ("size",), ("size", X, X), ("size", "x"), ("size", [X]),
    ("push", X), ("push", X, ONE, ONE), ("push", 1, ONE), ("push", X, 1),
    ("at", X, ONE), ("at", X, ONE, ONE, ONE), ("at", 1, ONE, ONE), ("at", X, 0, ONE), ("at", X, ONE, 1),
    ("put", X, WORD), ("put", X, WORD, ONE, ONE), ("put", 1, WORD, ONE), ("put", X, "k", ONE), ("put", X, WORD, 1),
    ("look", X, WORD), ("look", X, WORD, ONE, 1), ("look", 1, WORD, ONE), ("look", X, "k", ONE), ("look", X, WORD, 1),
    ("let", "y", ONE), ("let", "y", ONE, X, X), ("let", "Y", ONE, X), ("let", "", ONE, X), ("let", X, ONE, X),
    ("let", "abcdefghi", ONE, X), ("let", None, ONE, X), ("let", ["y"], ONE, X), ("let", 1, ONE, X), ("let", "y", 1, X),
    ("let", "y", ONE, 1),
    ("each", "y", X), ("each", "y", X, X, X), ("each", "y1", X, X), ("each", None, X, X), ("each", "y", "x", X),
    ("each", "y", X, 1),
    ("fold", "y", X, "z", NUMBER, ONE), ("fold", "y", X, "z", NUMBER, ONE, ONE, ONE),
    ("fold", "Y", X, "z", NUMBER, ONE, ONE), ("fold", "y", X, "Z", NUMBER, ONE, ONE),
    ("fold", 1, X, "z", NUMBER, ONE, ONE), ("fold", "y", X, [], NUMBER, ONE, ONE), ("fold", "y", X, 1, NUMBER, ONE, ONE),
    ("fold", "y", 1, "z", NUMBER, ONE, ONE), ("fold", "y", X, "z", NUMBER, 1, ONE),
    ("fold", "y", X, "z", NUMBER, ONE, 1), ("fold", "y", X, NUMBER, ONE, ONE),
    ("if", ONE, ONE, ONE), ("if", ONE, ONE, ONE, ONE, ONE), ("if", 1, ONE, ONE, ONE), ("if", ONE, 1, ONE, ONE),
    ("if", ONE, ONE, 1, ONE), ("if", ONE, ONE, ONE, 1),
    ("is", "x", "number", ONE), ("is", "x", "number", ONE, ONE, ONE), ("is", X, "number", ONE, ONE),
    ("is", 1, "number", ONE, ONE), ("is", "x", "a", ONE, ONE), ("is", "x", "some", ONE, ONE),
    ("is", "x", "Number", ONE, ONE), ("is", "x", "", ONE, ONE), ("is", "x", None, ONE, ONE),
    ("is", "x", ["number"], ONE, ONE), ("is", "x", NUMBER, ONE, ONE), ("is", "x", "number", 1, ONE),
    ("is", "x", "number", ONE, 1), ("is", "x", "shape a", ONE, ONE),
    ("has", "x", "a", ONE), ("has", "x", "a", ONE, ONE, ONE), ("has", X, "a", ONE, ONE), ("has", None, "a", ONE, ONE),
    ("has", "x", "A", ONE, ONE), ("has", "x", "", ONE, ONE), ("has", "x", "abcdefghi", ONE, ONE),
    ("has", "x", None, ONE, ONE), ("has", "x", "a", 1, ONE), ("has", "x", "a", ONE, 1),
    ("call", "none", ()), ("call", "none", (), (), ()), ("call", None, (), ()), ("call", 1, (), ()),
    ("call", ["none"], (), ()), ("call", ("none",), (), ()), ("call", "none", [], ()), ("call", "none", (), []),
    ("call", "none", None, ()), ("call", "none", (), None), ("call", "none", (NUMBER,), ()),
    ("call", "none", (), (ONE,)), ("call", "some", (), ()), ("call", "some", (A,), (X, ONE)),
    ("call", "some", (A, B), (X,)), ("call", "some", (A, B, A), (X, ONE)), ("call", "some", (A, B), (X, ONE, ONE)),
    ("call", "some", (A, B), (X, 1)), ("call", "some", (A, B), ("x", ONE)), ("call", "some", [A, B], (X, ONE)),
    ("call", "some", (A, B), [X, ONE]), ("call", "some", {}, (X, ONE)),
]

NO_KINDS = [
    None, (), 1, "number", ("number",), [("number",)], (("letter", "C"),), (("row", ()),), cut("A", "number"),
    (("some", "row"),), (("with", "a"),), row(cut("A", "text")), shape(("b", NUMBER), ("a", NUMBER)), {}, True,
]


def deep_kind(depth):
    kind = NUMBER
    for _ in range(depth):
        kind = row(kind)
    return kind


class Cases(unittest.TestCase):

    def good(self, functions):
        told = need_program(functions)
        self.assertIsInstance(told, dict)
        self.assertEqual(list(told), [each[0] for each in functions])
        self.assertEqual(list(told.values()), functions)

    def refused(self, error, functions):
        """Refused with just this error, and none of those that it is the base of."""
        with self.assertRaises(BadKind if error is BadKind else BadProgram) as caught:
            need_program(functions)
        self.assertIs(type(caught.exception), error)

    def look_at(self, error, body, params=PARAMS, letters=LETTERS):
        with self.subTest(body=body):
            functions = EARLIER + program(body, params, NUMBER, letters)
            if error is None:
                self.good(functions)
            else:
                self.refused(error, functions)

    def everywhere(self, error, part):
        """The part as a body, and within each part that has parts within."""
        for body in (part, ("row", (ONE, part)), ("shape", (("a", part),)), ("get", part, "a"), ("plus", part, ONE),
                     ("minus", ONE, part), ("join", part, WORD), ("size", part), ("push", X, part),
                     ("at", X, part, ONE), ("put", X, WORD, part), ("look", part, WORD, ONE), ("let", "v", part, ONE),
                     ("let", "v", ONE, part), ("each", "v", part, ONE), ("each", "v", ONE, part),
                     ("fold", "v", part, "w", NUMBER, ONE, ONE), ("fold", "v", X, "w", NUMBER, part, ONE),
                     ("fold", "v", X, "w", NUMBER, ONE, part), ("if", part, ONE, ONE, ONE), ("if", ONE, part, ONE, ONE),
                     ("if", ONE, ONE, part, ONE), ("if", ONE, ONE, ONE, part), ("is", "x", "text", part, ONE),
                     ("is", "x", "text", ONE, part), ("has", "x", "a", part, ONE), ("has", "x", "a", ONE, part),
                     ("call", "some", (A, B), (part, ONE)), ("call", "some", (A, B), (ONE, part))):
            self.look_at(error, body)


class Programs(Cases):

    def test_functions_by_their_names_in_order(self):
        self.assertEqual(need_program([]), {})
        functions = [function(ONE, named=word) for word in ("z", "a", "m")]
        told = need_program(functions)
        self.assertEqual(list(told.items()), [(word, function(ONE, named=word)) for word in ("z", "a", "m")])
        self.good(EARLIER)

    def test_twelve_and_thirteen_functions(self):
        words = ["f" + letter for letter in "abcdefghijklm"]
        functions = [function(ONE, named=word) for word in words]
        self.good(functions[:12])
        self.refused(BadProgram, functions)

    def test_what_is_no_list(self):
        for thing in (None, 1, True, "", "f", (), {}, tuple(program(ONE)), {"f": function(ONE)}, function(ONE)):
            with self.subTest(thing=thing):
                self.refused(BadProgram, thing)

    def test_what_is_no_function(self):
        five = function(ONE)
        for thing in (None, 1, "f", (), [], {}, list(five), five[:4], five + (ONE,), [five], (five,), "abcde"):
            with self.subTest(thing=thing):
                self.refused(BadProgram, [thing])
                self.refused(BadProgram, [function(ONE, named="g"), thing])

    def test_names_of_functions(self):
        for word in ("f", "abcdefgh", "number", "book", "some", "with", "letter", "def", "under", "x"):
            with self.subTest(word=word):
                self.good([function(ONE, named=word)])
        for word in ("", "abcdefghi", "F", "fA", "f1", "f_", "f g", "\u00e4", "f\n", 1, None, True, ("f",), ["f"], b"f"):
            with self.subTest(word=word):
                self.refused(BadProgram, [function(ONE, named=word)])

    def test_words_of_parts_are_no_names_of_functions(self):
        words = ["num", "text", "name", "row", "norow", "nobook", "shape", "get", "plus", "minus", "join", "size",
                 "push", "at", "put", "look", "let", "each", "fold", "if", "is", "has", "call"]
        for word in words:
            with self.subTest(word=word):
                self.refused(BadProgram, [function(ONE, named=word)])
                # Params and other names may be called so.
                self.good(program(name(word), ((word, NUMBER),)))
                self.good(program(("let", word, ONE, name(word))))

    def test_a_function_told_twice(self):
        self.refused(TwiceTold, program(ONE) + program(WORD, (), TEXT))
        self.refused(TwiceTold, [function(ONE, named="f"), function(ONE, named="g"), function(ONE, named="f")])


class LettersAndParams(Cases):

    def test_letters(self):
        self.good(program(ONE, (("x", A),), A, (("A", NUMBER),)))
        self.good(program(ONE, (("x", row(A) + B),), A, LETTERS))
        self.good(program(ONE, (), NUMBER, (("ABCDEFGH", shape(("a", NUMBER))),)))
        for letters in (None, "", 1, [], {}, [("A", NUMBER)], {"A": NUMBER}, ("A",), ("A", NUMBER), (None,), (("A",),),
                        (["A", NUMBER],), (("A", NUMBER, NUMBER),), (("a", NUMBER),), (("", NUMBER),), ((1, NUMBER),),
                        (("ABCDEFGHI", NUMBER),), ((None, NUMBER),), ((("A",), NUMBER),), ((["A"], NUMBER),),
                        (("A", NUMBER), ("B1", NUMBER))):
            with self.subTest(letters=letters):
                self.refused(BadProgram, program(ONE, (), NUMBER, letters))

    def test_params(self):
        self.good(program(ONE, (("f", NUMBER), ("abcdefgh", TEXT))))
        for params in (None, "", 1, [], {}, [("x", NUMBER)], {"x": NUMBER}, ("x",), ("x", NUMBER), (None,), (("x",),),
                       (["x", NUMBER],), (("x", NUMBER, NUMBER),), (("X", NUMBER),), (("", NUMBER),), ((1, NUMBER),),
                       (("abcdefghi", NUMBER),), ((None, NUMBER),), ((("x",), NUMBER),), ((["x"], NUMBER),),
                       (("x", NUMBER), ("y1", NUMBER))):
            with self.subTest(params=params):
                self.refused(BadProgram, program(ONE, params))

    def test_told_twice(self):
        self.refused(TwiceTold, program(ONE, (), NUMBER, (("A", NUMBER), ("A", NUMBER))))
        self.refused(TwiceTold, program(ONE, (), NUMBER, (("A", NUMBER), ("B", NUMBER), ("A", TEXT))))
        self.refused(TwiceTold, program(ONE, (("x", NUMBER), ("x", NUMBER))))
        self.refused(TwiceTold, program(ONE, (("x", NUMBER), ("y", NUMBER), ("x", TEXT))))

    def test_alike_in_several_functions(self):
        self.good([function(X, PARAMS, NUMBER, LETTERS, named=word) for word in ("f", "g", "x")])

    def test_what_is_no_kind(self):
        for kind in NO_KINDS + [deep_kind(9)]:
            with self.subTest(kind=kind):
                self.refused(BadKind, program(ONE, (("x", kind),), NUMBER, LETTERS))
                self.refused(BadKind, program(ONE, (("x", NUMBER), ("y", kind)), NUMBER, LETTERS))
                self.refused(BadKind, program(ONE, (), kind, LETTERS))
                self.refused(BadKind, program(ONE, (), NUMBER, (("A", kind),)))
        self.good(program(ONE, (("x", deep_kind(8)),), deep_kind(8), (("A", deep_kind(8)),)))

    def test_bounds_are_without_letters(self):
        for bound in (A, B, row(A), NUMBER + B, shape(("a", B))):
            with self.subTest(bound=bound):
                self.refused(BadKind, program(ONE, (), NUMBER, (("B", NUMBER), ("A", bound))))

    def test_letters_of_other_functions_are_not_known(self):
        for kind in (A, row(A), TEXT + A):
            with self.subTest(kind=kind):
                self.refused(BadKind, EARLIER + program(ONE, (("x", kind),)))
                self.refused(BadKind, EARLIER + program(ONE, (), kind))
                self.refused(BadKind, EARLIER + program(("norow", kind)))
                self.refused(BadKind, EARLIER + program(("call", "some", (kind, NUMBER), (ONE, ONE))))


class Parts(Cases):

    def test_parts(self):
        for part in GOOD_PARTS:
            self.look_at(None, part)

    def test_parts_within(self):
        for part in (X, ("fold", "y", X, "z", A, ONE, name("z")), ("call", "some", (A, B), (X, ONE))):
            self.everywhere(None, part)

    def test_what_is_no_part(self):
        for part in NO_PARTS:
            self.look_at(BadProgram, part)

    def test_what_is_no_part_within(self):
        for part in (None, ("num", True), ("text", "%"), ("row", ()), ("spare", ONE)):
            self.everywhere(BadProgram, part)

    def test_kinds(self):
        for kind in NO_KINDS + [deep_kind(9)]:
            for part in (("norow", kind), ("nobook", kind), ("fold", "y", X, "z", kind, ONE, ONE),
                         ("call", "some", (kind, NUMBER), (X, ONE)), ("call", "some", (NUMBER, kind), (X, ONE))):
                self.look_at(BadKind, part)
        kind = deep_kind(8)
        self.look_at(None, ("row", (("norow", kind), ("nobook", kind), ("call", "some", (kind, kind), (X, ONE)))))
        self.look_at(None, ("fold", "y", X, "z", kind, ONE, ONE))
        self.everywhere(BadKind, ("norow", (("letter", "C"),)))

    def test_twelve_and_thirteen_parts_deep(self):
        self.look_at(None, nested(ONE, 12))
        self.look_at(BadProgram, nested(ONE, 13))
        self.look_at(None, nested(("row", (ONE, X)), 12, 2))
        self.look_at(BadProgram, nested(("row", (ONE, X)), 13, 2))
        for part in GOOD_PARTS:
            within = 1 if part[0] in ("num", "text", "name", "norow", "nobook") or part[1:] == ("none", (), ()) else 2
            self.look_at(None, nested(part, 12, within))
            self.look_at(BadProgram, nested(part, 13, within))

    def test_the_deepest_way_counts(self):
        self.everywhere(None, nested(ONE, 11))
        deep = nested(ONE, 12)
        for part in (("row", (ONE, deep)), ("shape", (("a", ONE), ("b", deep))), ("get", deep, "a"),
                     ("if", ONE, ONE, ONE, deep), ("let", "y", deep, ONE), ("let", "y", ONE, deep),
                     ("fold", "y", X, "z", NUMBER, ONE, deep), ("is", "x", "text", ONE, deep),
                     ("call", "some", (A, B), (ONE, deep))):
            self.look_at(BadProgram, part)

    def test_very_deep(self):
        body = ONE
        for _ in range(100000):
            body = ("size", body)
        refused = False
        try:
            need_program([("f", (), (), NUMBER, body)])
        except BadProgram:
            refused = True
        self.assertTrue(refused)
        # Taken apart a step at a time, so that letting it go is no deep call.
        while body[0] == "size":
            body = body[1]


class Names(Cases):

    def test_names_that_are_not_known(self):
        for part in (name("y"), name("f"), name("some"), name("num"), name("abcdefgh"),
                     ("is", "y", "text", ONE, ONE), ("has", "y", "a", ONE, ONE), ("is", "f", "text", ONE, ONE)):
            self.everywhere(NoName, part)
        self.look_at(NoName, X, params=())

    def test_params_of_other_functions_are_not_known(self):
        self.refused(NoName, [function(ONE, (("y", NUMBER),), named="g"), function(name("y"))])

    def test_let_and_each(self):
        for word in ("let", "each"):
            self.look_at(None, (word, "y", X, name("y")))
            self.look_at(None, (word, "y", X, ("plus", X, ("size", name("y")))))
            self.look_at(None, (word, "y", X, ("is", "y", "text", ONE, ONE)))
            self.look_at(None, (word, "y", X, ("has", "y", "a", ONE, ONE)))
            self.look_at(NoName, (word, "y", name("y"), ONE))
            self.look_at(NoName, ("plus", (word, "y", X, ONE), name("y")))
            self.look_at(NoName, (word, "y", (word, "z", X, ONE), name("z")))

    def test_fold(self):
        def fold(first, second, last):
            return ("fold", "y", first, "z", NUMBER, second, last)
        self.look_at(None, fold(X, ONE, ("plus", ("plus", name("y"), name("z")), X)))
        for part in (name("y"), name("z")):
            self.look_at(NoName, fold(part, ONE, ONE))
            self.look_at(NoName, fold(X, part, ONE))
            self.look_at(NoName, ("plus", fold(X, ONE, ONE), part))

    def test_fold_with_one_name_twice(self):
        self.look_at(TwiceTold, ("fold", "y", X, "y", NUMBER, ONE, ONE))
        self.look_at(TwiceTold, ("fold", "x", X, "x", NUMBER, ONE, X))
        self.everywhere(TwiceTold, ("fold", "y", X, "y", NUMBER, ONE, name("y")))

    def test_a_name_given_anew(self):
        for body in (("let", "x", X, X), ("each", "x", X, X), ("fold", "x", X, "r", NUMBER, X, name("r")),
                     ("let", "y", ONE, ("let", "y", name("y"), name("y"))), ("let", "f", ONE, name("f")),
                     ("plus", ("let", "y", ONE, ONE), ("let", "y", ONE, ONE))):
            self.look_at(None, body)


class Calls(Cases):

    def test_of_functions_that_are_told_earlier(self):
        call = ("call", "g", (), ())
        self.good([function(ONE, named="g"), function(call)])
        self.refused(NoName, [function(call), function(ONE, named="g")])
        self.refused(NoName, [function(call, named="g")])
        self.refused(NoName, [function(call)])
        for word in ("size", "call", "x", "num"):
            self.refused(NoName, EARLIER + program(("call", word, (), ()), PARAMS))
        self.everywhere(NoName, ("call", "f", (), ()))


class Unchanged(unittest.TestCase):

    def test_what_is_handed_in_stays(self):
        functions = EARLIER + [function(part, PARAMS, NUMBER, LETTERS, named="p" + chr(97 + at))
                               for at, part in enumerate(GOOD_PARTS[-10:])]
        before = copy.deepcopy(functions)
        told = need_program(functions)
        told["more"] = None
        del told["none"]
        self.assertEqual(functions, before)
        self.assertEqual(len(need_program(functions)), 12)


if __name__ == "__main__":
    unittest.main()
