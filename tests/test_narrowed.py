"""Points 8 and 1: narrowed, by examples and by trying all of some values at all of some standings."""

import copy
import itertools
import unittest

from soothcheck.kinds import joined, narrowed, opened, shown_kind
from soothcheck.values import head_of, is_of
from tests.kind_makers import A, B, NUMBER, TEXT, book, cut, row, shape

SHAPE_A = shape(("a", NUMBER))
SHAPE_AB = shape(("a", NUMBER), ("b", TEXT))
SHAPE_ROW = shape(("row", NUMBER))

BOUNDS = {
    "A": TEXT + row(TEXT) + NUMBER + row(NUMBER) + SHAPE_AB,
    "B": SHAPE_AB + SHAPE_A + SHAPE_ROW,
    "C": NUMBER,
}
ASKS = [("is", word) for word in ("number", "text", "row", "book", "shape")]
ASKS += [("has", field) for field in ("a", "b", "row", "shape", "number", "zz")]


class Examples(unittest.TestCase):

    def look_at(self, kind, ask, yes, no):
        with self.subTest(kind=kind, ask=ask):
            told = narrowed(kind, BOUNDS, ask)
            self.assertIsInstance(told, tuple)
            self.assertEqual(tuple(shown_kind(side) for side in told), (yes, no))

    def test_choices_go_by_their_heads(self):
        plain = TEXT + row(NUMBER) + book(NUMBER) + SHAPE_A + NUMBER + row(TEXT) + SHAPE_AB
        self.look_at(plain, ("is", "number"), "number",
                     "book(number) | row(number) | row(text) | text | {a: number, b: text} | {a: number}")
        self.look_at(plain, ("is", "row"), "row(number) | row(text)",
                     "book(number) | number | text | {a: number, b: text} | {a: number}")
        self.look_at(plain, ("is", "book"), "book(number)",
                     "number | row(number) | row(text) | text | {a: number, b: text} | {a: number}")
        self.look_at(plain, ("is", "text"), "text",
                     "book(number) | number | row(number) | row(text) | {a: number, b: text} | {a: number}")
        self.look_at(plain, ("is", "shape"), "{a: number, b: text} | {a: number}",
                     "book(number) | number | row(number) | row(text) | text")
        self.look_at(plain, ("has", "b"), "{a: number, b: text}",
                     "book(number) | number | row(number) | row(text) | text | {a: number}")

    def test_a_side_with_nothing_left(self):
        self.assertEqual(narrowed(NUMBER, {}, ("is", "number")), (NUMBER, ()))
        self.assertEqual(narrowed(NUMBER, {}, ("is", "text")), ((), NUMBER))
        self.assertEqual(narrowed((), {}, ("is", "text")), ((), ()))
        self.assertEqual(narrowed((), {}, ("has", "a")), ((), ()))
        self.assertEqual(narrowed(SHAPE_AB, {}, ("has", "a")), (SHAPE_AB, ()))
        self.assertEqual(narrowed(SHAPE_AB, {}, ("has", "c")), ((), SHAPE_AB))

    def test_letters(self):
        self.look_at(A, ("is", "row"), "A(row)", "A(number, shape a b, text)")
        self.look_at(A, ("is", "shape"), "A(shape a b)", "A(number, row, text)")
        self.look_at(A, ("is", "book"), "", "A")
        self.look_at(A, ("has", "a"), "A(shape a b)", "A(number, row, text)")
        self.look_at(A, ("has", "row"), "", "A")
        self.look_at(B, ("is", "shape"), "B", "")
        self.look_at(B, ("has", "a"), "B(shape a, shape a b)", "B(shape row)")
        self.look_at(B, ("has", "row"), "B(shape row)", "B(shape a, shape a b)")
        self.look_at((("letter", "C"),), ("is", "number"), "C", "")
        self.look_at((("letter", "C"),), ("is", "text"), "", "C")

    def test_cuts(self):
        self.look_at(cut("A", "number", "row"), ("is", "row"), "A(row)", "A(number)")
        self.look_at(cut("A", "number", "row"), ("is", "text"), "", "A(number, row)")
        self.look_at(cut("A", "number"), ("is", "number"), "A(number)", "")
        self.look_at(cut("A", "number", "shape a b", "text"), ("has", "b"), "A(shape a b)", "A(number, text)")
        self.look_at(cut("B", "shape a", "shape a b"), ("is", "shape"), "B(shape a, shape a b)", "")
        self.look_at(cut("B", "shape a", "shape a b"), ("has", "b"), "B(shape a b)", "B(shape a)")
        self.look_at(cut("B", "shape a", "shape row"), ("has", "a"), "B(shape a)", "B(shape row)")

    def test_each_side_is_joined(self):
        self.look_at(TEXT + A + TEXT + NUMBER + A, ("is", "text"),
                     "A(text) | text", "A(number, row, shape a b) | number")
        self.look_at(A + cut("A", "number") + cut("A", "number", "text"), ("is", "number"),
                     "A(number)", "A(row, shape a b, text) | A(text)")
        self.look_at(SHAPE_A + NUMBER + TEXT, ("is", "row"), "", "number | text | {a: number}")

    def test_nothing_within_is_narrowed_or_joined(self):
        odd = row(TEXT + A + NUMBER + TEXT)
        self.assertEqual(narrowed(odd + NUMBER, BOUNDS, ("is", "number")), (NUMBER, odd))
        self.assertEqual(narrowed(odd, BOUNDS, ("is", "row")), (odd, ()))

    def test_fields_called_as_words_are(self):
        self.look_at(SHAPE_ROW + row(TEXT), ("is", "row"), "row(text)", "{row: number}")
        self.look_at(SHAPE_ROW + row(TEXT), ("has", "row"), "{row: number}", "row(text)")
        self.look_at(SHAPE_A, ("has", "shape"), "", "{a: number}")
        self.look_at(NUMBER, ("has", "number"), "", "number")

    def test_a_bound_with_a_head_twice(self):
        bounds = {"A": row(TEXT) + row(NUMBER) + row(TEXT)}
        self.assertEqual(narrowed(A, bounds, ("is", "row")), (A, ()))
        self.assertEqual(narrowed(A, bounds, ("is", "text")), ((), A))

    def test_what_is_handed_in_stays(self):
        bounds = copy.deepcopy(BOUNDS)
        narrowed(A + B + cut("A", "text"), bounds, ("is", "text"))
        self.assertEqual(bounds, BOUNDS)
        self.assertEqual(list(bounds), list(BOUNDS))


class Meaning(unittest.TestCase):

    VALUES = [0, "", [], [0], ["x"], {}, (("a", 1),), (("a", 1), ("b", "x")), (("row", 2),)]

    def answer(self, value, ask):
        word = {int: "number", str: "text", list: "row", dict: "book", tuple: "shape"}[type(value)]
        if ask[0] == "is":
            return word == ask[1]
        return word == "shape" and ask[1] in [field for field, _ in value]

    def standings(self):
        within = {letter: [value for value in self.VALUES if is_of(value, bound, {})]
                  for letter, bound in BOUNDS.items()}
        for some in itertools.chain(within["A"], [None]):
            yield {"A": [] if some is None else [some], "B": within["B"][:1], "C": []}
        yield within

    def test_each_value_goes_to_its_side(self):
        choices = [NUMBER, row(A), SHAPE_AB, SHAPE_A, A, B, (("letter", "C"),), cut("A", "row", "text"),
                   cut("B", "shape a"), book(NUMBER)]
        standings = list(self.standings())
        for one, other in itertools.combinations(choices, 2):
            for ask in ASKS:
                yes, no = narrowed(one + other, BOUNDS, ask)
                self.assertEqual((joined([yes]), joined([no])), (yes, no))
                for standing, value in itertools.product(standings, self.VALUES):
                    inside = is_of(value, one + other, standing)
                    self.assertEqual(is_of(value, yes, standing), inside and self.answer(value, ask))
                    self.assertEqual(is_of(value, no, standing), inside and not self.answer(value, ask))

    def test_what_is_opened_holds_what_was_there(self):
        for kind in (A, B, cut("A", "row", "text"), cut("B", "shape a"), row(A) + A):
            heads = sorted({head_of(value) for standing in self.standings() for value in self.VALUES
                            if is_of(value, kind, standing)})
            wide = opened(kind, BOUNDS)
            for standing, value in itertools.product(self.standings(), self.VALUES):
                if is_of(value, kind, standing):
                    self.assertTrue(is_of(value, wide, standing))
                if is_of(value, wide, standing):
                    self.assertIn(head_of(value), heads)


if __name__ == "__main__":
    unittest.main()
