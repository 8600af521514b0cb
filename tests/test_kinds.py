"""Points 5 to 7 and 1: texts of kinds, what is no kind, and how kinds are put together."""

import copy
import unittest

from soothcheck.errors import BadKind
from soothcheck.kinds import joined, need_kind, opened, put_in, shown_kind
from tests.kind_makers import A, B, NUMBER, TEXT, book, cut, row, shape


class Shown(unittest.TestCase):

    def test_plain_kinds(self):
        self.assertEqual(shown_kind(NUMBER), "number")
        self.assertEqual(shown_kind(TEXT), "text")
        self.assertEqual(shown_kind(row(NUMBER)), "row(number)")
        self.assertEqual(shown_kind(book(row(TEXT))), "book(row(text))")

    def test_choices_stand_as_they_are_told(self):
        self.assertEqual(shown_kind(TEXT + NUMBER), "text | number")
        self.assertEqual(shown_kind(row(TEXT + NUMBER + TEXT) + A), "row(text | number | text) | A")

    def test_shapes(self):
        self.assertEqual(shown_kind(shape(("a", NUMBER))), "{a: number}")
        self.assertEqual(
            shown_kind(shape(("a", NUMBER + A), ("bc", row(TEXT)), ("d", shape(("e", B))))),
            "{a: number | A, bc: row(text), d: {e: B}}")

    def test_letters_and_cuts(self):
        self.assertEqual(shown_kind(A + (("letter", "LONGNAME"),)), "A | LONGNAME")
        self.assertEqual(shown_kind(cut("A", "number")), "A(number)")
        self.assertEqual(shown_kind(row(cut("AB", "book", "shape a b", "text"))), "row(AB(book, shape a b, text))")

    def test_what_is_due(self):
        self.assertEqual(shown_kind((("some", "book"), ("some", "row"), ("text",))), "some book | some row | text")
        self.assertEqual(shown_kind((("with", "field"),)), "with field")

    def test_no_choice(self):
        self.assertEqual(shown_kind(()), "")
        self.assertEqual(shown_kind(row(())), "row()")


class Need(unittest.TestCase):

    def look_at(self, kinds, letters=()):
        for kind in kinds:
            with self.subTest(kind=kind):
                self.assertIsNone(need_kind(kind, letters))

    def refused(self, kinds, letters=()):
        for kind in kinds:
            with self.subTest(kind=kind):
                with self.assertRaises(BadKind):
                    need_kind(kind, letters)

    def test_kinds(self):
        self.look_at([
            NUMBER, TEXT, NUMBER + TEXT, TEXT + NUMBER, NUMBER + NUMBER,
            row(NUMBER), book(TEXT + row(TEXT)), row(TEXT) + row(TEXT),
            shape(("a", NUMBER)), shape(("a", NUMBER), ("b", TEXT), ("ba", NUMBER + TEXT)),
        ])

    def test_letters_among_the_told_ones(self):
        self.look_at([A, B, A + B, row(A), book(B), shape(("a", A), ("b", row(B)))], ("A", "B"))
        self.refused([A, row(A), book(A), shape(("a", A)), NUMBER + A, shape(("a", NUMBER), ("b", row(A)))])
        self.refused([A, B + A, row(A), shape(("b", A))], ("B", "AA", "C"))

    def test_words_of_eight_and_nine_letters(self):
        eight = (("letter", "ABCDEFGZ"),)
        nine = (("letter", "ABCDEFGHI"),)
        letters = ("ABCDEFGZ", "ABCDEFGHI")
        self.look_at([eight, row(eight)], letters)
        self.refused([nine, row(nine)], letters)
        self.look_at([shape(("abcdefgz", NUMBER)), shape(("a", NUMBER), ("abcdefgz", TEXT))])
        self.refused([shape(("abcdefghi", NUMBER)), shape(("a", NUMBER), ("abcdefghi", TEXT))])

    def test_fields_that_are_no_words(self):
        for field in ("", "A", "aB", "a1", "a b", "a_b", "a\n", "\u00e4", 1, None, True, ("a",), b"a"):
            self.refused([shape((field, NUMBER))])

    def test_letters_that_are_none(self):
        for letter in ("", "a", "Ab", "A1", "A B", "A\n", "\u00c4", 1, None, ("A",), ["A"]):
            self.refused([(("letter", letter),)], (letter, "A"))

    def test_no_choice(self):
        self.refused([(), row(()), book(()), shape(("a", ())), NUMBER + row(())])

    def test_shapes_of_other_forms(self):
        pair = ("a", NUMBER)
        self.refused([
            (("shape", ()),), (("shape",),), (("shape", pair),), (("shape", [pair]),), (("shape", {"a": NUMBER}),),
            (("shape", None),), (("shape", "ab"),), (("shape", ("ab",)),), (("shape", (["a", NUMBER],)),),
            (("shape", (("a",),)),), (("shape", (("a", NUMBER, NUMBER),)),), (("shape", (pair,), 1),),
            shape(("b", NUMBER), ("a", NUMBER)), shape(pair, pair), shape(pair, ("b", TEXT), ("b", TEXT)),
            shape(("a", 1)), shape(("a", "number")), shape(("a", ("number",))), shape(("a", [("number",)])),
        ])

    def test_what_is_no_kind_at_all(self):
        self.refused([
            None, 0, True, "number", "", [], {}, [("number",)], ("number",), ("row", NUMBER), (1,), (None,),
            ((),), (("number",), None), (["number"],), ("number", "text"), ({},), (("number",), ("text")),
        ])

    def test_choices_of_other_forms(self):
        self.refused([
            (("number", NUMBER),), (("text", None),), (("row",),), (("book",),), (("letter",),), (("Number",),),
            (("whole",),), (("row", NUMBER, NUMBER),), (("book", ("number",)),), (("row", "number"),),
            (("row", [("number",)]),), (("row", None),), (("row", True),), (("letter", "A", ("number",)),),
            (("heap", NUMBER),), ((1, NUMBER),), ((None, NUMBER),), (([], NUMBER),), ((("row",), NUMBER),),
            (("cut", "A"),), (("heap", "A"),), (("", "A"),), ((None, "A"),),
        ], ("A",))

    def test_cuts_and_what_is_due_are_refused(self):
        for kind in (cut("A", "number"), (("some", "row"),), (("some", "book"),), (("with", "a"),)):
            self.refused([kind, NUMBER + kind, row(kind), shape(("a", kind))], ("A",))

    def test_eight_and_nine_deep(self):
        wraps = {"row": row, "book": book, "shape": lambda kind: shape(("a", NUMBER), ("b", kind))}
        for name, wrap in wraps.items():
            for inmost in (NUMBER, A, TEXT + NUMBER):
                with self.subTest(name=name, inmost=inmost):
                    kind = inmost
                    for _ in range(8):
                        kind = wrap(kind)
                        self.assertIsNone(need_kind(kind, ("A",)))
                        self.assertIsNone(need_kind(TEXT + kind, ("A",)))
                    self.refused([wrap(kind), NUMBER + wrap(kind), wrap(wrap(kind))], ("A",))

    def test_the_deepest_way_counts(self):
        deep = row(book(shape(("a", row(book(shape(("a", row(NUMBER)))))))))
        self.look_at([row(deep), shape(("a", TEXT), ("b", deep), ("c", NUMBER))])
        self.refused([row(row(deep)), shape(("a", TEXT), ("b", book(deep)), ("c", NUMBER))])

    def test_very_deep(self):
        kind = NUMBER
        for _ in range(100000):
            kind = row(kind)
        # Without its text in a subTest: showing so deep a tuple would itself go too deep.
        refused = False
        try:
            need_kind(kind, ())
        except BadKind:
            refused = True
        self.assertTrue(refused)
        # Taken apart a step at a time, so that letting it go is no deep call either.
        while kind[0][0] == "row":
            kind = kind[0][1]


class Joined(unittest.TestCase):

    def test_each_choice_once_ascending_by_its_text(self):
        self.assertEqual(joined([TEXT, NUMBER]), NUMBER + TEXT)
        self.assertEqual(joined([TEXT + NUMBER, NUMBER + TEXT, TEXT]), NUMBER + TEXT)
        self.assertEqual(joined([NUMBER + NUMBER]), NUMBER)
        everything = [shape(("a", NUMBER)), TEXT, row(TEXT), row(NUMBER), NUMBER, B, cut("A", "text"), book(A), A]
        self.assertEqual(shown_kind(joined(everything)),
                         "A | A(text) | B | book(A) | number | row(number) | row(text) | text | {a: number}")

    def test_by_the_text_and_not_by_the_tuple(self):
        # "shape" comes before "text", but "{" comes behind it; and "(" before "A" and "|".
        self.assertEqual(joined([shape(("a", NUMBER)), TEXT]), TEXT + shape(("a", NUMBER)))
        self.assertEqual(joined([B, cut("A", "text"), A]), A + cut("A", "text") + B)
        self.assertEqual(joined([shape(("aa", TEXT)), shape(("a", TEXT), ("b", TEXT))]),
                         shape(("a", TEXT), ("b", TEXT)) + shape(("aa", TEXT)))

    def test_nothing_within_is_joined(self):
        odd = row(TEXT + NUMBER + TEXT)
        self.assertEqual(joined([odd]), odd)
        self.assertEqual(joined([odd, row(NUMBER + TEXT)]), row(NUMBER + TEXT) + odd)
        field = shape(("a", TEXT + NUMBER))
        self.assertEqual(joined([field, field]), field)

    def test_without_a_choice(self):
        self.assertEqual(joined([]), ())
        self.assertEqual(joined([()]), ())
        self.assertEqual(joined([(), ()]), ())
        self.assertEqual(joined([(), TEXT, ()]), TEXT)
        self.assertEqual(joined([row(()), row(NUMBER)]), row(()) + row(NUMBER))

    def test_what_is_due_too(self):
        self.assertEqual(joined([TEXT, (("some", "row"),), (("some", "book"),)]),
                         (("some", "book"), ("some", "row"), ("text",)))


class PutIn(unittest.TestCase):

    def test_letters_places(self):
        self.assertEqual(put_in(A, {"A": NUMBER}), NUMBER)
        self.assertEqual(put_in(row(A), {"A": NUMBER}), row(NUMBER))
        self.assertEqual(put_in(book(A), {"A": B}), book(B))
        self.assertEqual(put_in(shape(("a", A), ("b", B)), {"A": NUMBER, "B": row(TEXT)}),
                         shape(("a", NUMBER), ("b", row(TEXT))))
        self.assertEqual(put_in(book(row(shape(("a", row(A))))), {"A": TEXT}), book(row(shape(("a", row(TEXT))))))

    def test_what_is_given_is_not_put_in_again(self):
        self.assertEqual(put_in(A + row(B), {"A": B, "B": A}), B + row(A))
        self.assertEqual(put_in(A, {"A": row(A)}), row(A))

    def test_a_letter_that_is_given_none_stays(self):
        self.assertEqual(put_in(row(A + B), {"A": TEXT}), row(B + TEXT))

    def test_the_outer_choices_are_joined(self):
        self.assertEqual(put_in(TEXT + A, {"A": TEXT + NUMBER}), NUMBER + TEXT)
        self.assertEqual(put_in(TEXT + NUMBER + TEXT, {}), NUMBER + TEXT)
        self.assertEqual(put_in(row(A) + row(B), {"A": TEXT, "B": TEXT}), row(TEXT))

    def test_so_are_those_within_at_each_step(self):
        mixed = TEXT + A + NUMBER + TEXT
        given = {"A": TEXT + book(NUMBER)}
        clean = book(NUMBER) + NUMBER + TEXT
        self.assertEqual(put_in(row(mixed), given), row(clean))
        self.assertEqual(put_in(book(mixed), given), book(clean))
        self.assertEqual(put_in(shape(("a", mixed), ("b", row(mixed))), given), shape(("a", clean), ("b", row(clean))))
        self.assertEqual(put_in(row(row(TEXT + NUMBER)), {}), row(row(NUMBER + TEXT)))
        self.assertEqual(put_in(row(TEXT + NUMBER) + row(NUMBER + TEXT), {}), row(NUMBER + TEXT))

    def test_but_nothing_within_what_is_given(self):
        given = {"A": row(TEXT + NUMBER + TEXT)}
        self.assertEqual(put_in(A, given), row(TEXT + NUMBER + TEXT))
        self.assertEqual(put_in(book(A), given), book(row(TEXT + NUMBER + TEXT)))
        self.assertEqual(put_in(A + row(TEXT + NUMBER), given), row(NUMBER + TEXT) + row(TEXT + NUMBER + TEXT))
        self.assertEqual(put_in(shape(("a", A)), {"A": shape(("b", TEXT + NUMBER))}),
                         shape(("a", shape(("b", TEXT + NUMBER)))))

    def test_without_a_choice(self):
        self.assertEqual(put_in((), {"A": NUMBER}), ())
        self.assertEqual(put_in(A, {"A": ()}), ())
        self.assertEqual(put_in(A + TEXT, {"A": ()}), TEXT)
        self.assertEqual(put_in(row(A), {"A": ()}), row(()))
        self.assertEqual(put_in(row(()), {}), row(()))

    def test_a_cut_that_is_given(self):
        self.assertEqual(put_in(row(A), {"A": cut("B", "number")}), row(cut("B", "number")))


class Opened(unittest.TestCase):

    BOUNDS = {
        "A": TEXT + NUMBER + row(TEXT + NUMBER) + row(NUMBER),
        "B": shape(("a", TEXT), ("b", TEXT)) + shape(("a", TEXT)) + book(NUMBER),
        "C": NUMBER,
    }

    def look_at(self, kind, text):
        self.assertEqual(shown_kind(opened(kind, self.BOUNDS)), text)

    def test_letters(self):
        self.look_at((("letter", "C"),), "number")
        self.look_at(A, "number | row(number) | row(text | number) | text")
        self.look_at(A + B + (("letter", "C"),), "book(number) | number | row(number) | row(text | number) | text"
                     " | {a: text, b: text} | {a: text}")

    def test_cuts(self):
        self.look_at(cut("A", "number"), "number")
        self.look_at(cut("A", "row"), "row(number) | row(text | number)")
        self.look_at(cut("A", "row", "text"), "row(number) | row(text | number) | text")
        self.look_at(cut("B", "shape a"), "{a: text}")
        self.look_at(cut("B", "book", "shape a b"), "book(number) | {a: text, b: text}")
        self.look_at(cut("A", "number") + cut("B", "shape a") + cut("A", "text"), "number | text | {a: text}")

    def test_only_outer_ones(self):
        for kind in (row(A), book(cut("A", "number")), shape(("a", A), ("b", row(B)))):
            self.assertEqual(opened(kind, self.BOUNDS), kind)
        self.look_at(row(A) + cut("A", "text"), "row(A) | text")

    def test_joins_the_outer_choices_alone(self):
        self.look_at(TEXT + A + TEXT + cut("A", "text"), "number | row(number) | row(text | number) | text")
        self.look_at(TEXT + NUMBER + TEXT, "number | text")
        self.look_at(row(TEXT + NUMBER + TEXT), "row(text | number | text)")

    def test_without_a_choice(self):
        self.assertEqual(opened((), self.BOUNDS), ())
        self.assertEqual(opened((), {}), ())
        self.assertEqual(opened(row(()), {}), row(()))

    def test_a_field_called_as_a_head_is(self):
        bounds = {"A": shape(("number", TEXT)) + shape(("row", TEXT)) + row(TEXT)}
        self.assertEqual(opened(cut("A", "row"), bounds), row(TEXT))
        self.assertEqual(opened(cut("A", "shape row"), bounds), shape(("row", TEXT)))


class Unchanged(unittest.TestCase):

    def test_what_is_handed_in_stays(self):
        kinds = [TEXT + NUMBER, (), row(TEXT), TEXT]
        given = {"A": TEXT + NUMBER, "B": row(A)}
        bounds = {"A": TEXT + NUMBER, "B": row(TEXT)}
        before = copy.deepcopy((kinds, given, bounds))
        joined(kinds)
        put_in(A + row(B) + shape(("a", A)), given)
        opened(A + B + cut("A", "text"), bounds)
        need_kind(A, ("A",))
        shown_kind(A)
        self.assertEqual((kinds, given, bounds), before)
        self.assertEqual([list(given), list(bounds)], [["A", "B"], ["A", "B"]])


if __name__ == "__main__":
    unittest.main()
