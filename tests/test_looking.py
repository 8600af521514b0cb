"""Points 14 and 15: the kind that is found of each part, and what is due there."""

import unittest

from soothcheck.checking import check, found_kind
from tests.check_cases import LookCases
from tests.kind_makers import A, B, NUMBER, TEXT, book, cut, row, shape
from tests.program_makers import ONE, WORD, function, name

EITHER = NUMBER + TEXT
SOME_ROW = (("some", "row"),)
SOME_BOOK = (("some", "book"),)
SIZED = (("some", "book"), ("some", "row"), ("text",))
X = name("x")
Y = name("y")


def with_field(field):
    return (("with", field),)


class Plain(LookCases):

    def test_numbers_and_texts(self):
        self.passing(("num", -7), NUMBER)
        self.passing(("text", ""), TEXT)

    def test_names_are_joined(self):
        self.passing(X, NUMBER, (("x", NUMBER),))
        self.passing(X, NUMBER + TEXT, (("x", TEXT + NUMBER + TEXT),))
        self.passing(X, row(TEXT + NUMBER), (("x", row(TEXT + NUMBER)),))
        self.passing(Y, TEXT, (("x", NUMBER), ("y", TEXT)))
        self.passing(X, A, (("x", A),), (("A", EITHER),))

    def test_rows(self):
        self.passing(("row", (ONE,)), row(NUMBER))
        self.passing(("row", (WORD, ONE, WORD)), row(EITHER))
        self.passing(("row", (("row", (ONE,)), X)), row(row(NUMBER) + TEXT), (("x", TEXT),))

    def test_without_elements(self):
        self.passing(("norow", NUMBER), row(NUMBER))
        self.passing(("nobook", TEXT), book(TEXT))
        # As told, not joined.
        self.passing(("norow", TEXT + NUMBER + TEXT), row(TEXT + NUMBER + TEXT))
        self.passing(("nobook", TEXT + NUMBER), book(TEXT + NUMBER))
        self.passing(("norow", A), row(A), (), (("A", NUMBER),))

    def test_shapes(self):
        self.passing(("shape", (("a", ONE),)), shape(("a", NUMBER)))
        self.passing(("shape", (("a", X), ("b", WORD))), shape(("a", EITHER), ("b", TEXT)), (("x", TEXT + NUMBER),))


class Fields(LookCases):

    def test_get(self):
        one = shape(("a", NUMBER))
        both = shape(("a", TEXT), ("b", row(NUMBER)))
        self.passing(("get", X, "a"), NUMBER, (("x", one),))
        self.passing(("get", X, "b"), row(NUMBER), (("x", both),))
        self.passing(("get", X, "a"), EITHER, (("x", both + one),))
        self.passing(("get", X, "a"), EITHER, (("x", shape(("a", TEXT + NUMBER + TEXT))),))
        self.passing(("get", ("shape", (("a", ONE), ("c", WORD))), "c"), TEXT)

    def test_get_of_letters(self):
        letters = (("A", shape(("a", NUMBER)) + shape(("a", TEXT), ("b", TEXT))), ("B", NUMBER))
        self.passing(("get", X, "a"), EITHER, (("x", A),), letters)
        self.passing(("get", X, "a"), B + EITHER, (("x", A + shape(("a", B))),), letters)
        self.passing(("has", "x", "b", ("get", X, "b"), WORD), TEXT, (("x", A),), letters)
        self.passing(("has", "x", "b", WORD, ("get", X, "a")), EITHER, (("x", A),), letters)

    def test_what_is_due(self):
        for kind in (NUMBER, row(shape(("a", TEXT))), shape(("b", NUMBER)), TEXT + shape(("a", NUMBER)), book(NUMBER),
                     shape(("a", NUMBER)) + shape(("b", NUMBER))):
            self.refused(("size", ("row", (("get", X, "a"),))), kind, with_field("a"), (("x", kind),))
        letters = (("A", shape(("a", NUMBER)) + TEXT),)
        self.refused(("get", X, "a"), A, with_field("a"), (("x", A),), letters)
        self.passing(("is", "x", "shape", ("get", X, "a"), ONE), NUMBER, (("x", A),), letters)


class Sums(LookCases):

    def test_plus_and_minus(self):
        for word in ("plus", "minus"):
            self.passing((word, ONE, ONE), NUMBER)
            self.passing((word, X, ONE), NUMBER, (("x", A),), (("A", NUMBER),))
            self.refused((word, WORD, ONE), TEXT, NUMBER)
            self.refused((word, ONE, WORD), TEXT, NUMBER)
            self.refused((word, X, ONE), EITHER, NUMBER, (("x", EITHER),))
            self.refused((word, ONE, X), A, NUMBER, (("x", A),), (("A", EITHER),))

    def test_join(self):
        self.passing(("join", WORD, WORD), TEXT)
        self.refused(("join", ONE, WORD), NUMBER, TEXT, result=TEXT)
        self.refused(("join", WORD, ONE), NUMBER, TEXT, result=TEXT)
        self.refused(("join", WORD, X), row(TEXT), TEXT, (("x", row(TEXT)),), result=TEXT)

    def test_size(self):
        for kind in (TEXT, row(NUMBER), book(TEXT), TEXT + row(TEXT), book(NUMBER) + row(NUMBER) + row(TEXT) + TEXT):
            self.passing(("size", X), NUMBER, (("x", kind),))
        self.passing(("size", X), NUMBER, (("x", A),), (("A", TEXT + row(NUMBER)),))
        for kind in (NUMBER, shape(("a", TEXT)), NUMBER + TEXT):
            self.refused(("size", X), kind, SIZED, (("x", kind),))


class Rows(LookCases):

    def test_push(self):
        self.passing(("push", X, ONE), row(NUMBER), (("x", row(NUMBER)),))
        self.passing(("push", X, ONE), row(EITHER), (("x", row(TEXT)),))
        # For each of the rows one; these joined.
        self.passing(("push", X, ONE), row(EITHER) + row(NUMBER), (("x", row(TEXT) + row(NUMBER)),))
        self.passing(("push", X, ONE), row(EITHER), (("x", row(TEXT) + row(EITHER)),))
        self.passing(("push", ("norow", TEXT + NUMBER), Y), row(NUMBER + row(TEXT) + TEXT), (("y", row(TEXT)),))

    def test_push_to_letters(self):
        letters = (("A", row(NUMBER) + row(TEXT)), ("B", EITHER))
        self.passing(("push", X, Y), row(B + NUMBER) + row(B + TEXT), (("x", A), ("y", B)), letters)
        self.passing(("push", X, Y), row(A + B), (("x", row(B)), ("y", A)), letters)

    def test_at(self):
        self.passing(("at", X, ONE, ONE), NUMBER, (("x", row(NUMBER)),))
        self.passing(("at", X, ONE, ONE), EITHER, (("x", row(TEXT)),))
        self.passing(("at", X, ONE, ONE), NUMBER + row(TEXT) + TEXT, (("x", row(TEXT) + row(row(TEXT) + TEXT)),))
        self.passing(("at", X, ONE, Y), A + B + TEXT, (("x", row(B) + row(TEXT + B)), ("y", A)),
                     (("A", NUMBER), ("B", NUMBER)))
        self.passing(("at", X, ONE, ONE), EITHER, (("x", A),), (("A", row(TEXT) + row(NUMBER)),))

    def test_each(self):
        self.passing(("each", "y", X, Y), row(NUMBER), (("x", row(NUMBER)),))
        self.passing(("each", "y", X, WORD), row(TEXT), (("x", row(NUMBER)),))
        self.passing(("each", "x", X, ("row", (X,))), row(row(EITHER)), (("x", row(TEXT) + row(NUMBER)),))
        self.passing(("each", "y", X, ("row", (X, Y))), row(row(A + EITHER)), (("x", A),),
                     (("A", row(NUMBER) + row(TEXT)),))
        self.passing(("each", "y", X, ("plus", Y, ONE)), row(NUMBER), (("x", row(A)),), (("A", NUMBER),))

    def test_fold(self):
        def fold(row_part, kind, first, last):
            return ("fold", "x", row_part, "y", kind, first, last)
        self.passing(fold(X, NUMBER, ONE, ("plus", X, Y)), NUMBER, (("x", row(NUMBER)),))
        self.passing(fold(X, TEXT + NUMBER, ONE, X), EITHER, (("x", row(TEXT)),))
        self.passing(fold(X, row(TEXT + NUMBER), ("norow", TEXT), ("push", Y, X)), row(TEXT + NUMBER),
                     (("x", row(NUMBER) + row(TEXT)),))
        # y is of the kind from the first on, not only of what f is.
        self.passing(fold(X, EITHER, ONE, ("is", "y", "text", Y, WORD)), EITHER, (("x", row(TEXT)),))
        self.passing(fold(X, A, Y, X), A, (("x", row(A)), ("y", A)), (("A", NUMBER),))
        self.refused(fold(X, EITHER, ONE, ("plus", Y, ONE)), EITHER, NUMBER, (("x", row(TEXT)),), result=EITHER)
        self.refused(fold(X, EITHER, ONE, ("plus", X, ONE)), TEXT, NUMBER, (("x", row(TEXT)),), result=EITHER)

    def test_what_is_due_for_f_and_g_in_fold(self):
        for kind in (NUMBER + NUMBER, NUMBER + row(TEXT)):
            self.refused(("fold", "x", X, "y", kind, WORD, ONE), TEXT, kind, (("x", row(TEXT)),), result=kind)
            self.refused(("fold", "x", X, "y", kind, ONE, X), TEXT, kind, (("x", row(TEXT)),), result=kind)

    def test_rows_are_due(self):
        for kind in (NUMBER, TEXT, book(NUMBER), shape(("row", NUMBER)), book(NUMBER) + row(NUMBER)):
            for body in (("push", X, ONE), ("at", X, ONE, ONE), ("each", "y", X, ONE),
                         ("fold", "y", X, "z", NUMBER, ONE, ONE)):
                self.refused(("size", ("row", (body,))), kind, SOME_ROW, (("x", kind),))
        self.refused(("each", "y", X, ONE), A, SOME_ROW, (("x", A),), (("A", row(NUMBER) + TEXT),), result=row(NUMBER))

    def test_places_are_numbers(self):
        self.refused(("at", X, WORD, ONE), TEXT, NUMBER, (("x", row(NUMBER)),))


class Books(LookCases):

    def test_put(self):
        self.passing(("put", X, WORD, ONE), book(NUMBER), (("x", book(NUMBER)),))
        self.passing(("put", X, WORD, ONE), book(EITHER), (("x", book(TEXT)),))
        self.passing(("put", X, WORD, ONE), book(EITHER) + book(NUMBER), (("x", book(TEXT) + book(NUMBER)),))
        self.passing(("put", ("nobook", TEXT + NUMBER), WORD, Y), book(EITHER), (("y", TEXT),))
        self.passing(("put", X, WORD, X), book(A + NUMBER), (("x", A),), (("A", book(NUMBER)),))

    def test_look(self):
        self.passing(("look", X, WORD, ONE), NUMBER, (("x", book(NUMBER)),))
        self.passing(("look", X, WORD, ONE), EITHER, (("x", book(TEXT)),))
        self.passing(("look", X, WORD, ONE), NUMBER + row(TEXT) + TEXT, (("x", book(TEXT) + book(row(TEXT) + TEXT)),))
        self.passing(("look", X, WORD, Y), A + TEXT, (("x", B), ("y", A)), (("A", NUMBER), ("B", book(TEXT))))

    def test_books_are_due(self):
        for kind in (NUMBER, TEXT, row(NUMBER), shape(("book", NUMBER)), book(NUMBER) + row(NUMBER)):
            for body in (("put", X, WORD, ONE), ("look", X, WORD, ONE)):
                self.refused(("size", ("row", (body,))), kind, SOME_BOOK, (("x", kind),))

    def test_texts_are_due(self):
        params = (("x", book(NUMBER)),)
        self.refused(("put", X, ONE, ONE), NUMBER, TEXT, params, result=book(NUMBER))
        self.refused(("look", X, ONE, ONE), NUMBER, TEXT, params)


class Ways(LookCases):

    def test_let(self):
        self.passing(("let", "y", WORD, Y), TEXT)
        self.passing(("let", "y", WORD, ONE), NUMBER)
        self.passing(("let", "x", ("row", (X,)), ("row", (X,))), row(row(NUMBER)), (("x", NUMBER),))
        self.refused(("let", "x", WORD, ("plus", X, ONE)), TEXT, NUMBER, (("x", NUMBER),))
        # What is not used is looked at, too.
        self.refused(("let", "y", ("plus", WORD, ONE), ONE), TEXT, NUMBER)

    def test_a_name_given_anew_hides_the_earlier_one_there_alone(self):
        params = (("x", NUMBER),)
        self.passing(("row", (("let", "x", WORD, X), X)), row(EITHER), params)
        self.passing(("let", "x", ("let", "x", WORD, ("row", (X,))), X), row(TEXT), params)
        self.passing(("shape", (("a", ("each", "x", ("row", (WORD,)), X)), ("b", X))),
                     shape(("a", row(TEXT)), ("b", NUMBER)), params)
        self.passing(("shape", (("a", ("fold", "x", ("row", (WORD,)), "y", EITHER, X, X)), ("b", X))),
                     shape(("a", EITHER), ("b", NUMBER)), params)

    def test_if(self):
        self.passing(("if", ONE, ONE, ONE, WORD), EITHER)
        self.passing(("if", ONE, ONE, WORD, X), row(NUMBER) + TEXT,
                     (("x", row(NUMBER)),))
        self.passing(("if", ONE, ONE, WORD, WORD), TEXT)
        self.refused(("if", WORD, ONE, ONE, ONE), TEXT, NUMBER)
        self.refused(("if", ONE, WORD, ONE, ONE), TEXT, NUMBER)
        self.refused(("if", ONE, ONE, ("plus", WORD, ONE), ONE), TEXT, NUMBER)
        self.refused(("if", ONE, ONE, ONE, ("plus", WORD, ONE)), TEXT, NUMBER)

    def test_is(self):
        params = (("x", TEXT + NUMBER + row(NUMBER)),)
        self.passing(("is", "x", "number", ("plus", X, ONE), ONE), NUMBER, params)
        self.passing(("is", "x", "number", WORD, X), row(NUMBER) + TEXT, params)
        self.passing(("is", "x", "text", X, ("num", 2)), EITHER, params)
        self.passing(("is", "x", "row", X, X), NUMBER + row(NUMBER) + TEXT, params)
        self.passing(("is", "x", "number", ONE, ("is", "x", "text", ("size", X), ("size", X))), NUMBER, params)
        self.refused(("is", "x", "number", ONE, ("plus", X, ONE)), row(NUMBER) + TEXT, NUMBER, params)
        self.refused(("is", "x", "row", ("plus", ("at", X, ONE, ONE), WORD), ONE), TEXT, NUMBER, params)

    def test_is_of_each_word(self):
        kinds = {"number": NUMBER, "text": TEXT, "row": row(NUMBER), "book": book(TEXT), "shape": shape(("a", TEXT))}
        everything = shape(("a", TEXT)) + NUMBER + row(NUMBER) + TEXT + book(TEXT)
        for word, kind in kinds.items():
            self.passing(("is", "x", word, X, ("row", (("row", (ONE,)),))), tuple(sorted(kind + row(row(NUMBER)))),
                         (("x", everything),))

    def test_has(self):
        params = (("x", shape(("a", NUMBER)) + shape(("a", TEXT), ("b", NUMBER)) + TEXT),)
        self.passing(("has", "x", "a", ("get", X, "a"), X), EITHER, params)
        self.passing(("has", "x", "b", ("get", X, "a"), WORD), TEXT, params)
        self.passing(("has", "x", "b", ONE, X), NUMBER + TEXT + shape(("a", NUMBER)), params)
        self.refused(("has", "x", "a", ("get", X, "b"), ONE), shape(("a", NUMBER)) + shape(("a", TEXT), ("b", NUMBER)),
                     with_field("b"), params)

    def test_letters_are_cut(self):
        letters = (("A", NUMBER + TEXT + shape(("a", NUMBER))),)
        params = (("x", A),)
        self.passing(("is", "x", "number", X, ONE), cut("A", "number") + NUMBER, params, letters, result=A + NUMBER)
        self.passing(("is", "x", "text", ONE, X), cut("A", "number", "shape a") + NUMBER, params, letters,
                     result=A + NUMBER)
        self.passing(("is", "x", "text", X, ("has", "x", "a", ONE, X)),
                     cut("A", "number") + cut("A", "text") + NUMBER, params, letters, result=A + NUMBER)
        self.passing(("is", "x", "number", ("plus", X, ONE), ONE), NUMBER, params, letters)
        self.passing(("has", "x", "a", ("get", X, "a"), ONE), NUMBER, params, letters)
        self.passing(("is", "x", "text", X, X), cut("A", "number", "shape a") + cut("A", "text"), params, letters,
                     result=A)
        self.refused(("is", "x", "text", ONE, ("plus", X, ONE)), cut("A", "number", "shape a"), NUMBER, params, letters)

    def test_a_way_that_nothing_is_left_for(self):
        wrong = ("plus", WORD, ("size", ONE))
        params = (("x", NUMBER), ("y", shape(("a", TEXT))), ("z", A))
        letters = (("A", row(NUMBER)),)
        for body in (("is", "x", "number", ONE, wrong), ("is", "x", "text", wrong, ONE),
                     ("has", "x", "a", wrong, ONE), ("has", "y", "a", ONE, wrong), ("has", "y", "b", wrong, ONE),
                     ("is", "y", "shape", ONE, wrong), ("is", "z", "row", ONE, wrong), ("is", "z", "text", wrong, ONE),
                     ("is", "x", "number", ONE, ("is", "x", "number", wrong, wrong)),
                     ("let", "v", WORD, ("is", "v", "number", wrong, ONE))):
            self.passing(body, NUMBER, params, letters)
        self.passing(("is", "x", "text", WORD, ("row", (ONE,))), row(NUMBER), params, letters)
        self.passing(("has", "y", "a", WORD, ("row", (ONE,))), TEXT, params, letters)
        # Both ways are looked at as soon as something is left for both.
        for body in (("is", "w", "number", ONE, ("plus", WORD, ONE)), ("is", "w", "text", ("plus", WORD, ONE), ONE)):
            self.refused(body, TEXT, NUMBER, (("w", EITHER),))


class Calls(LookCases):

    LETTERS = (("A", EITHER), ("B", row(NUMBER) + NUMBER))
    EARLIER = [
        function(ONE, named="none"),
        function(("row", (X, Y)), (("x", A), ("y", row(A))), row(A + row(A)), LETTERS, named="two"),
        function(X, (("x", A + B),), A + B, LETTERS, named="either"),
        function(ONE, (("x", TEXT), ("y", row(NUMBER))), TEXT + NUMBER + TEXT, named="plain"),
    ]

    def test_the_result_with_the_kinds_put_in(self):
        self.passing(("call", "none", (), ()), NUMBER)
        self.passing(("call", "plain", (), (WORD, ("norow", NUMBER))), NUMBER + TEXT)
        self.passing(("call", "two", (NUMBER, NUMBER), (ONE, ("row", (ONE,)))), row(NUMBER + row(NUMBER)))
        self.passing(("call", "two", (TEXT + NUMBER, NUMBER), (ONE, ("row", (WORD,)))),
                     row(NUMBER + row(EITHER) + TEXT))
        self.passing(("call", "either", (NUMBER, NUMBER), (ONE,)), NUMBER)
        self.passing(("call", "either", (TEXT, row(NUMBER)), (WORD,)), row(NUMBER) + TEXT)
        self.passing(("call", "either", (TEXT, NUMBER), (ONE,)), EITHER)

    def test_calls_with_letters(self):
        letters = (("A", NUMBER), ("C", EITHER), ("D", row(NUMBER)))
        c, d = (("letter", "C"),), (("letter", "D"),)
        params = (("x", A), ("y", row(c)), ("z", d))
        self.passing(("call", "either", (c, A), (X,)), A + c, params, letters)
        self.passing(("call", "either", (A, d + A), (name("z"),)), A + d, params, letters)
        self.passing(("call", "two", (c + A, A), (X, Y)), row(A + c + row(A + c)), params, letters)
        self.refused(("call", "either", (d, A), (X,)), d, EITHER, params, letters, result=A + d)
        self.refused(("call", "either", (A, c), (X,)), c, row(NUMBER) + NUMBER, params, letters, result=A + c)
        self.refused(("call", "two", (c, A), (X, Y)), A, c, params, letters, result=row(c + row(c)))
        self.refused(("call", "two", (A, A), (X, Y)), row(c), row(A), params, letters, result=row(A + row(A)))

    def test_kinds_that_are_given_to_letters(self):
        self.refused(("call", "either", (row(NUMBER), NUMBER), (ONE,)), row(NUMBER), EITHER, result=NUMBER + row(NUMBER))
        self.refused(("call", "either", (NUMBER, row(TEXT)), (ONE,)), row(TEXT), row(NUMBER) + NUMBER,
                     result=NUMBER + row(TEXT))
        self.refused(("call", "either", (NUMBER, TEXT + NUMBER), (ONE,)), TEXT + NUMBER, row(NUMBER) + NUMBER,
                     result=EITHER)

    def test_params_with_the_kinds_put_in(self):
        self.refused(("call", "plain", (), (ONE, ("norow", NUMBER))), NUMBER, TEXT, result=EITHER)
        self.refused(("call", "plain", (), (WORD, ("norow", TEXT))), row(TEXT), row(NUMBER), result=EITHER)
        self.refused(("call", "two", (NUMBER, NUMBER), (WORD, ("norow", NUMBER))), TEXT, NUMBER,
                     result=row(NUMBER + row(NUMBER)))
        self.refused(("call", "two", (NUMBER, NUMBER), (ONE, ("norow", TEXT))), row(TEXT), row(NUMBER),
                     result=row(NUMBER + row(NUMBER)))
        self.refused(("call", "either", (TEXT, NUMBER), (("norow", NUMBER),)), row(NUMBER), EITHER, result=EITHER)
        # Put in, the two choices are joined.
        self.refused(("call", "either", (NUMBER, NUMBER), (WORD,)), TEXT, NUMBER)

    def test_the_parts_of_a_call_are_looked_at(self):
        self.refused(("call", "plain", (), (WORD, ("each", "x", WORD, ONE))), TEXT, SOME_ROW, result=EITHER)

    def test_letters_of_the_same_name_are_those_of_the_caller(self):
        letters = (("A", row(NUMBER)),)
        self.passing(("call", "either", (NUMBER, A), (X,)), A + NUMBER, (("x", A),), letters)
        self.refused(("call", "either", (A, NUMBER), (X,)), A, EITHER, (("x", A),), letters, result=A + NUMBER)


class Within(LookCases):

    def test_each_part_is_looked_at(self):
        wrong = ("plus", WORD, ONE)
        params = (("x", NUMBER), ("r", row(NUMBER)), ("b", book(NUMBER)), ("s", shape(("a", NUMBER))), ("e", EITHER))
        r, b = name("r"), name("b")
        for body in (("row", (ONE, wrong)), ("shape", (("a", ONE), ("b", wrong))), ("get", ("shape", (("a", wrong),)), "a"),
                     ("minus", wrong, ONE), ("minus", ONE, wrong), ("push", r, wrong),
                     ("push", ("row", (wrong,)), ONE), ("at", ("row", (wrong,)), ONE, ONE), ("at", r, wrong, ONE),
                     ("at", r, ONE, wrong), ("put", ("put", b, WORD, wrong), WORD, ONE), ("put", b, WORD, wrong),
                     ("look", ("put", b, WORD, wrong), WORD, ONE), ("look", b, WORD, wrong),
                     ("let", "y", wrong, ONE), ("let", "y", ONE, wrong), ("each", "y", ("row", (wrong,)), ONE),
                     ("each", "y", r, wrong), ("fold", "y", ("row", (wrong,)), "z", NUMBER, ONE, ONE),
                     ("fold", "y", r, "z", NUMBER, wrong, ONE), ("fold", "y", r, "z", NUMBER, ONE, wrong),
                     ("if", wrong, ONE, ONE, ONE), ("if", ONE, wrong, ONE, ONE), ("if", ONE, ONE, wrong, ONE),
                     ("if", ONE, ONE, ONE, wrong), ("is", "e", "text", wrong, ONE), ("is", "e", "text", ONE, wrong),
                     ("has", "s", "a", wrong, ONE), ("has", "s", "b", ONE, wrong), ("size", ("row", (wrong,)))):
            result = NUMBER + row(NUMBER) + book(NUMBER) + shape(("a", NUMBER), ("b", NUMBER))
            self.refused(body, TEXT, NUMBER, params, result=result)

    def test_keys_of_books_are_looked_at(self):
        wrong = ("join", WORD, ONE)
        params = (("b", book(NUMBER)),)
        for body in (("put", name("b"), wrong, ONE), ("look", name("b"), wrong, ONE)):
            self.refused(body, NUMBER, TEXT, params, result=NUMBER + book(NUMBER))

    def test_kinds_that_grow_deep(self):
        body, depth = X, 0
        for wraps in range(11):
            worth = X
            for _ in range(wraps):
                worth = ("row", (worth,))
            body, depth = ("let", "x", worth, body), depth + wraps
        # No result that is told can be that deep.
        told = check([function(body, (("x", NUMBER),))])
        kind = NUMBER
        for _ in range(depth):
            kind = row(kind)
        self.assertEqual((depth, len(told)), (55, 1))
        self.look_at_refusal(told[0], "f", kind, NUMBER, {})

    def test_a_function_that_is_found_without_its_result(self):
        functions = [function(("row", (ONE,)), (), row(EITHER) + TEXT)]
        self.assertEqual(found_kind(functions, "f"), row(NUMBER))


if __name__ == "__main__":
    unittest.main()
