"""Points 9, 10 and 1: fits, ground and lean by examples."""

import copy
import itertools
import unittest

from soothcheck.fitting import fits, ground, lean
from soothcheck.kinds import joined, shown_kind
from tests.fit_cases import Cases
from tests.kind_makers import A, B, NUMBER, TEXT, book, cut, row, shape

EITHER = NUMBER + TEXT
SOME_ROW = (("some", "row"),)
SOME_BOOK = (("some", "book"),)


def with_field(field):
    return (("with", field),)


class PlainKinds(Cases):

    def test_each_kind_fits_itself_and_no_other(self):
        kinds = [NUMBER, TEXT, row(NUMBER), row(TEXT), book(NUMBER), book(TEXT), shape(("a", NUMBER)),
                 shape(("a", TEXT)), shape(("b", NUMBER)), shape(("a", NUMBER), ("b", NUMBER)), row(row(NUMBER))]
        for one, other in itertools.product(kinds, kinds):
            if one == other:
                self.fitting(one, other)
            else:
                self.unfitting(one, other)

    def test_choices(self):
        self.fitting(NUMBER, EITHER)
        self.fitting(EITHER, TEXT + row(NUMBER) + NUMBER)
        self.fitting(NUMBER + NUMBER, NUMBER)
        self.unfitting(EITHER, NUMBER)
        self.unfitting(EITHER, TEXT)
        self.unfitting(NUMBER + TEXT + row(NUMBER), EITHER)

    def test_no_choice(self):
        self.fitting((), ())
        self.fitting((), NUMBER)
        self.fitting((), SOME_ROW)
        for kind in (NUMBER, TEXT, row(NUMBER), book(TEXT), shape(("a", NUMBER))):
            self.unfitting(kind, ())
        self.unfitting(A, (), {"A": NUMBER})
        self.unfitting(cut("A", "text"), (), {"A": EITHER})
        self.unfitting(row(A), (), {"A": NUMBER})

    def test_no_choice_within(self):
        self.fitting(row(()), row(NUMBER))
        self.fitting(row(()), row(()))
        self.fitting(book(()), book(row(A)), {"A": NUMBER})
        self.unfitting(row(()), ())
        self.unfitting(row(()), book(()))
        self.unfitting(row(NUMBER), row(()))
        self.unfitting(book(TEXT), book(()))
        self.fitting(shape(("a", ())), ())
        self.fitting(shape(("a", NUMBER), ("b", ())), TEXT)
        self.fitting(row(shape(("a", ()))), row(()))
        self.unfitting(shape(("a", row(()))), ())
        self.unfitting(shape(("a", NUMBER)), shape(("a", ())))

    def test_a_shape_without_a_value_among_others(self):
        self.fitting(shape(("a", ())) + NUMBER, NUMBER)
        self.unfitting(NUMBER + TEXT, shape(("a", ())) + NUMBER)


class RowsAndBooks(Cases):

    def test_what_is_within(self):
        for wrap in (row, book):
            self.fitting(wrap(NUMBER), wrap(EITHER))
            self.fitting(wrap(EITHER), wrap(TEXT + NUMBER))
            self.unfitting(wrap(EITHER), wrap(NUMBER))
            self.fitting(wrap(wrap(NUMBER)), wrap(wrap(EITHER)))
            self.unfitting(wrap(wrap(EITHER)), wrap(wrap(TEXT)))

    def test_split_by_several(self):
        for wrap in (row, book):
            # One with an element of each is of neither.
            self.unfitting(wrap(EITHER), wrap(NUMBER) + wrap(TEXT))
            self.unfitting(wrap(EITHER + row(NUMBER)), wrap(EITHER) + wrap(TEXT + row(NUMBER)))
            self.fitting(wrap(EITHER), wrap(NUMBER) + wrap(TEXT) + wrap(EITHER))
            self.fitting(wrap(NUMBER) + wrap(TEXT), wrap(EITHER))
            self.fitting(wrap(NUMBER), wrap(TEXT) + wrap(NUMBER + row(TEXT)))
            self.unfitting(wrap(wrap(EITHER)), wrap(wrap(NUMBER) + wrap(TEXT)))

    def test_those_without_anything(self):
        for wrap in (row, book):
            self.unfitting(wrap(NUMBER), wrap(TEXT))
            self.unfitting(wrap(A), wrap(B), {"A": NUMBER, "B": NUMBER})
            # Those without anything are of both, and stand for no letter where there is none.
            self.unfitting(wrap(()), A, {"A": wrap(NUMBER)})
            self.unfitting(A, wrap(()), {"A": wrap(NUMBER)})
            self.fitting(wrap(()), wrap(A) + A, {"A": wrap(NUMBER)})
        self.unfitting(row(()), book(NUMBER))
        self.unfitting(book(()), row(NUMBER))

    def test_rows_are_no_books(self):
        self.unfitting(row(NUMBER), book(NUMBER))
        self.unfitting(book(NUMBER), row(NUMBER) + SOME_ROW)


class Shapes(Cases):

    def test_fields(self):
        self.fitting(shape(("a", NUMBER)), shape(("a", EITHER)))
        self.unfitting(shape(("a", EITHER)), shape(("a", NUMBER)))
        self.fitting(shape(("a", NUMBER), ("b", TEXT)), shape(("a", EITHER), ("b", EITHER)))
        self.unfitting(shape(("a", NUMBER), ("b", EITHER)), shape(("a", EITHER), ("b", TEXT)))
        self.unfitting(shape(("a", NUMBER), ("b", NUMBER)), shape(("a", NUMBER)))
        self.unfitting(shape(("a", NUMBER)), shape(("a", NUMBER), ("b", NUMBER)))

    def test_split_by_one_field(self):
        self.fitting(shape(("a", EITHER)), shape(("a", NUMBER)) + shape(("a", TEXT)))
        self.fitting(shape(("a", EITHER), ("b", TEXT)),
                     shape(("a", NUMBER), ("b", TEXT)) + shape(("a", TEXT), ("b", EITHER)))
        self.unfitting(shape(("a", EITHER + row(TEXT))), shape(("a", NUMBER)) + shape(("a", TEXT)))
        self.unfitting(shape(("a", EITHER)), shape(("a", NUMBER)) + shape(("b", TEXT)))

    def test_split_by_two_fields(self):
        both = shape(("a", EITHER), ("b", EITHER))
        parts = [shape(("a", one), ("b", other)) for one in (NUMBER, TEXT) for other in (NUMBER, TEXT)]
        self.fitting(both, parts[0] + parts[1] + parts[2] + parts[3])
        for left_out in range(4):
            self.unfitting(both, sum([part for at, part in enumerate(parts) if at != left_out], ()))
        self.fitting(both, shape(("a", NUMBER), ("b", EITHER)) + shape(("a", TEXT), ("b", EITHER)))
        self.fitting(both, shape(("a", NUMBER), ("b", EITHER)) + parts[2] + parts[3])
        self.unfitting(both, shape(("a", NUMBER), ("b", EITHER)) + shape(("a", EITHER), ("b", NUMBER)))
        self.fitting(both, shape(("a", NUMBER), ("b", EITHER)) + shape(("a", EITHER), ("b", NUMBER)) + parts[3])

    def test_split_by_three_fields(self):
        three = shape(("a", EITHER), ("b", EITHER), ("c", EITHER))
        # Of any three of number and text two neighbours, going round, are number and text or all are alike.
        round_about = (shape(("a", NUMBER), ("b", TEXT), ("c", EITHER))
                       + shape(("a", EITHER), ("b", NUMBER), ("c", TEXT))
                       + shape(("a", TEXT), ("b", EITHER), ("c", NUMBER)))
        all_numbers = shape(("a", NUMBER), ("b", NUMBER), ("c", NUMBER))
        all_texts = shape(("a", TEXT), ("b", TEXT), ("c", TEXT))
        self.fitting(three, round_about + all_numbers + all_texts)
        self.unfitting(three, round_about + all_numbers)
        self.unfitting(three, round_about + all_texts)
        self.unfitting(three, round_about)

    def test_split_by_all_ways_of_six_fields(self):
        fields = "abcdef"
        parts = [shape(*zip(fields, kinds))[0] for kinds in itertools.product([NUMBER, TEXT], repeat=6)]
        whole = shape(*[(field, EITHER) for field in fields])
        self.fitting(whole, tuple(parts))
        for left_out in (0, 21, 63):
            self.unfitting(whole, tuple(parts[:left_out] + parts[left_out + 1:]))

    def test_split_within(self):
        deep = shape(("a", shape(("b", EITHER))))
        self.fitting(deep, shape(("a", shape(("b", NUMBER)))) + shape(("a", shape(("b", TEXT)))))
        self.fitting(deep, shape(("a", shape(("b", NUMBER)) + shape(("b", TEXT)))))
        self.unfitting(deep, shape(("a", shape(("b", NUMBER)))))
        in_row = row(shape(("a", EITHER)))
        self.fitting(in_row, row(shape(("a", NUMBER)) + shape(("a", TEXT))))
        self.unfitting(in_row, row(shape(("a", NUMBER))) + row(shape(("a", TEXT))))
        rows = shape(("a", row(EITHER)))
        self.unfitting(rows, shape(("a", row(NUMBER))) + shape(("a", row(TEXT))))

    def test_a_field_that_is_split_stays_free_of_the_others(self):
        one = shape(("a", row(EITHER)), ("b", EITHER))
        self.unfitting(one, shape(("a", row(NUMBER)), ("b", EITHER)) + shape(("a", row(EITHER)), ("b", TEXT)))
        self.unfitting(one, shape(("a", row(NUMBER)), ("b", EITHER)) + shape(("a", row(TEXT)), ("b", EITHER)))
        self.fitting(one, shape(("a", row(EITHER)), ("b", NUMBER)) + shape(("a", row(EITHER)), ("b", TEXT)))


class Letters(Cases):

    BOUNDS = {"A": EITHER + row(NUMBER), "B": EITHER + row(NUMBER), "C": NUMBER}
    C = (("letter", "C"),)

    def so(self, one, other):
        self.fitting(one, other, self.BOUNDS)

    def not_so(self, one, other):
        self.unfitting(one, other, self.BOUNDS)

    def test_a_letter_beside_itself_and_its_bound(self):
        self.so(A, A)
        self.so(A, EITHER + row(NUMBER))
        self.so(A, EITHER + SOME_ROW)
        self.so(A, EITHER + row(EITHER))
        self.so(self.C, NUMBER)
        self.so(self.C, EITHER)
        self.not_so(A, EITHER)
        self.not_so(A, NUMBER + row(NUMBER))
        self.not_so(self.C, TEXT)

    def test_a_letter_for_which_no_value_stands(self):
        # The bound holds more than what the letter stands for, and that may be nothing.
        self.not_so(NUMBER, A)
        self.not_so(NUMBER, self.C)
        self.not_so(EITHER + row(NUMBER), A)
        self.not_so(row(NUMBER), A + row(A))
        self.not_so(row(NUMBER), row(self.C))
        self.not_so(shape(("a", NUMBER)), shape(("a", self.C)))
        self.assertEqual(ground(NUMBER, self.C, self.BOUNDS)[1], {"A": [], "B": [], "C": []})

    def test_letters_are_free_of_each_other(self):
        self.not_so(A, B)
        self.not_so(B, A)
        self.not_so(self.C, A)
        self.not_so(A + B, A)
        self.so(A, A + B)
        self.not_so(row(A + B), row(A) + row(B))

    def test_cuts(self):
        self.so(cut("A", "number"), A)
        self.so(cut("A", "number"), NUMBER)
        self.so(cut("A", "number"), cut("A", "number", "text"))
        self.so(cut("A", "number", "row"), NUMBER + row(NUMBER))
        self.so(cut("A", "row"), SOME_ROW)
        self.so(cut("A", "row"), row(self.C) + row(NUMBER))
        self.not_so(A, cut("A", "number"))
        self.not_so(cut("A", "number", "text"), cut("A", "number"))
        self.not_so(cut("A", "number"), cut("A", "text"))
        self.not_so(cut("A", "number"), cut("B", "number"))
        self.not_so(cut("A", "number"), B)
        self.not_so(cut("A", "number"), TEXT)
        self.not_so(NUMBER, cut("A", "number"))

    def test_a_letter_split_by_its_cuts_and_its_bound(self):
        self.so(A, cut("A", "number") + cut("A", "row", "text"))
        self.so(A, cut("A", "number", "row") + cut("A", "number", "text"))
        self.so(A, cut("A", "number", "row") + TEXT)
        self.so(A, cut("A", "number") + TEXT + row(NUMBER))
        self.so(A, NUMBER + TEXT + cut("A", "row"))
        self.so(cut("A", "number", "text"), cut("A", "number") + TEXT)
        self.not_so(A, cut("A", "number") + cut("A", "text"))
        self.not_so(A, cut("A", "number") + cut("B", "row", "text"))
        self.not_so(A, cut("A", "number", "row") + row(NUMBER))
        self.not_so(A, cut("A", "number") + TEXT + row(self.C))

    def test_split_within(self):
        self.so(shape(("a", A)), shape(("a", cut("A", "number", "text"))) + shape(("a", row(NUMBER))))
        self.not_so(shape(("a", A)), shape(("a", cut("A", "number", "text"))) + shape(("a", row(self.C))))
        self.so(row(A), row(cut("A", "number", "text") + row(NUMBER)))
        self.not_so(row(A), row(cut("A", "number", "text")) + row(cut("A", "row")))
        self.not_so(book(A), book(cut("A", "number")) + book(EITHER) + book(row(NUMBER)))
        self.so(shape(("a", A), ("b", A)),
                shape(("a", cut("A", "number")), ("b", A)) + shape(("a", TEXT + row(NUMBER)), ("b", TEXT))
                + shape(("a", cut("A", "row", "text")), ("b", cut("A", "number", "row"))))
        self.not_so(shape(("a", A), ("b", A)),
                    shape(("a", cut("A", "number")), ("b", A)) + shape(("a", A), ("b", cut("A", "number"))))

    def test_one_letter_in_several_places_may_stand_for_several_values(self):
        self.not_so(shape(("a", self.C), ("b", NUMBER)), shape(("a", self.C), ("b", self.C)))
        self.not_so(shape(("a", A), ("b", EITHER)), shape(("a", A), ("b", A + B)))
        self.not_so(row(self.C + row(NUMBER)), row(self.C) + row(self.C + row(self.C)))

    def test_rows_and_books_of_letters_need_not_be_without_anything(self):
        # Where both were without anything they would be equal, and so of the same letters.
        for wrap in (row, book):
            bounds = {"A": wrap(NUMBER), "B": wrap(wrap(TEXT))}
            self.unfitting(shape(("a", A), ("b", wrap(NUMBER))), shape(("a", A), ("b", A)), bounds)
            self.unfitting(shape(("a", wrap(NUMBER)), ("b", A)), shape(("a", A), ("b", A)), bounds)
            self.unfitting(shape(("a", A), ("b", B)), shape(("a", A), ("b", A)), bounds)
            self.unfitting(shape(("a", B), ("b", wrap(wrap(TEXT)))), shape(("a", B), ("b", B)), bounds)
            self.unfitting(row(A + wrap(NUMBER)), row(A) + row(wrap(TEXT)), bounds)

    def test_a_value_of_one_letter_that_is_not_of_another(self):
        bounds = {"A": shape(("a", NUMBER)) + row(NUMBER), "B": NUMBER}
        self.unfitting(A, shape(("a", B)) + row(NUMBER), bounds)
        self.unfitting(A, shape(("a", NUMBER)) + row(B), bounds)
        self.fitting(A, shape(("a", NUMBER)) + row(NUMBER + B), bounds)
        self.fitting(cut("A", "shape a"), with_field("a"), bounds)
        self.unfitting(cut("A", "shape a"), cut("A", "row") + shape(("a", B)), bounds)

    def test_a_bound_with_a_head_twice(self):
        bounds = {"A": row(NUMBER) + row(TEXT) + NUMBER}
        self.fitting(A, row(NUMBER) + row(TEXT) + NUMBER, bounds)
        self.fitting(A, cut("A", "number") + row(EITHER), bounds)
        self.fitting(cut("A", "row"), row(NUMBER) + row(TEXT), bounds)
        self.unfitting(cut("A", "row"), row(NUMBER), bounds)
        self.unfitting(cut("A", "row"), row(TEXT), bounds)

    def test_a_bound_without_a_choice(self):
        self.fitting(A, (), {"A": ()})
        self.fitting(A + NUMBER, NUMBER, {"A": ()})
        self.unfitting(row(A), (), {"A": ()})
        self.fitting(row(A), row(B), {"A": (), "B": NUMBER})

    def test_letters_that_occur_nowhere_are_in_the_standing(self):
        value, standing = ground(NUMBER, TEXT, {"B": TEXT, "A": NUMBER})
        self.assertEqual(standing, {"A": [], "B": []})


class Due(Cases):

    def test_all_rows_and_all_books(self):
        self.fitting(row(NUMBER), SOME_ROW)
        self.fitting(row(row(TEXT)) + row(()), SOME_ROW)
        self.fitting(book(NUMBER) + book(TEXT), SOME_BOOK)
        self.unfitting(book(NUMBER), SOME_ROW)
        self.unfitting(row(NUMBER), SOME_BOOK)
        self.unfitting(row(NUMBER) + NUMBER, SOME_ROW)
        self.unfitting(shape(("row", NUMBER)), SOME_ROW)
        self.fitting(row(NUMBER) + book(NUMBER) + TEXT, SOME_BOOK + SOME_ROW + TEXT)
        self.unfitting(EITHER, SOME_BOOK + SOME_ROW + TEXT)

    def test_all_shapes_with_a_field(self):
        one = shape(("a", NUMBER))
        both = shape(("a", TEXT), ("b", row(NUMBER)))
        self.fitting(one, with_field("a"))
        self.fitting(one + both, with_field("a"))
        self.fitting(both, with_field("b"))
        self.unfitting(one + both, with_field("b"))
        self.unfitting(both, with_field("c"))
        self.unfitting(one + NUMBER, with_field("a"))
        self.unfitting(row(one), with_field("a"))
        self.unfitting(shape(("b", one)), with_field("a"))
        self.unfitting(shape(("a", NUMBER)), with_field("shape"))
        self.fitting(shape(("shape", NUMBER)), with_field("shape"))

    def test_beside_other_choices(self):
        self.fitting(shape(("a", EITHER), ("b", NUMBER)) + shape(("c", TEXT)), with_field("b") + shape(("c", TEXT)))
        self.unfitting(shape(("a", EITHER)) + row(TEXT), SOME_ROW + shape(("a", TEXT)))

    def test_letters_and_cuts(self):
        bounds = {"A": row(NUMBER) + row(TEXT), "B": shape(("a", NUMBER)) + shape(("a", TEXT), ("b", TEXT)) + TEXT}
        self.fitting(A, SOME_ROW, bounds)
        self.unfitting(B, with_field("a"), bounds)
        self.fitting(B, with_field("a") + TEXT, bounds)
        self.fitting(cut("B", "shape a", "shape a b"), with_field("a"), bounds)
        self.unfitting(cut("B", "shape a", "shape a b"), with_field("b"), bounds)
        self.fitting(cut("B", "shape a b"), with_field("b"), bounds)


class Lean(unittest.TestCase):

    def look_at(self, kind, text, bounds=None):
        with self.subTest(kind=kind):
            self.assertEqual(shown_kind(lean(kind, {} if bounds is None else bounds)), text)

    def test_what_fits_the_others_is_left_out(self):
        self.look_at(NUMBER, "number")
        self.look_at(EITHER, "number | text")
        self.look_at(row(NUMBER) + row(EITHER), "row(number | text)")
        self.look_at(row(EITHER) + NUMBER + row(TEXT), "number | row(number | text)")
        self.look_at(shape(("a", NUMBER)) + shape(("a", EITHER)), "{a: number | text}")

    def test_the_choices_are_joined(self):
        self.look_at(TEXT + NUMBER + TEXT, "number | text")
        self.look_at(row(TEXT) + row(TEXT), "row(text)")
        self.assertEqual(lean((), {}), ())

    def test_nothing_within_is_left_out(self):
        self.look_at(row(TEXT + NUMBER + TEXT), "row(text | number | text)")
        self.look_at(row(row(NUMBER) + row(EITHER)), "row(row(number) | row(number | text))")

    def test_one_by_one_ascending(self):
        # Each fits the other, so the first of them is left out, and the last one stays.
        self.look_at(row(EITHER) + row(TEXT + NUMBER), "row(text | number)")
        self.look_at(row(TEXT + NUMBER) + row(EITHER) + row(NUMBER + TEXT + NUMBER), "row(text | number)")
        self.look_at(shape(("a", NUMBER)) + shape(("a", EITHER)), "{a: number | text}")
        # "{a: number | text}" is before "{a: number}" and fits it together with "{a: text}".
        self.look_at(shape(("a", EITHER)) + shape(("a", NUMBER)) + shape(("a", TEXT)) + shape(("a", TEXT + NUMBER)),
                     "{a: text | number}")

    def test_what_was_left_out_is_not_among_the_others(self):
        # The first one fits the two behind it together; these do not fit each other.
        three = shape(("a", EITHER)) + shape(("a", NUMBER)) + shape(("a", TEXT))
        self.look_at(three, "{a: number} | {a: text}")
        self.look_at(three + row(NUMBER), "row(number) | {a: number} | {a: text}")

    def test_letters_and_cuts(self):
        bounds = {"A": EITHER, "B": NUMBER}
        self.look_at(A + NUMBER + TEXT, "number | text", bounds)
        self.look_at(A + NUMBER, "A | number", bounds)
        self.look_at(A + cut("A", "number"), "A", bounds)
        # The letter comes first and fits its cuts together.
        self.look_at(A + cut("A", "number") + cut("A", "text"), "A(number) | A(text)", bounds)
        self.look_at(B + NUMBER, "number", bounds)
        self.look_at(B + A, "A | B", bounds)

    def test_what_has_no_value(self):
        self.look_at(shape(("a", ())), "")
        self.look_at(shape(("a", ())) + NUMBER, "number")
        self.look_at(row(()) + row(NUMBER), "row(number)")
        self.look_at(row(()), "row()")


class Unchanged(unittest.TestCase):

    def test_what_is_handed_in_stays(self):
        bounds = {"A": EITHER + row(NUMBER), "B": shape(("a", EITHER))}
        before = copy.deepcopy(bounds)
        ground(row(A) + B, row(cut("A", "text")) + book(B), bounds)
        fits(A + B, B, bounds)
        lean(A + B + NUMBER, bounds)
        value, standing = ground(shape(("a", A), ("b", B)), (), bounds)
        standing["A"].append("more")
        standing["C"] = []
        self.assertEqual(bounds, before)
        self.assertEqual(list(bounds), ["A", "B"])
        self.assertEqual(ground(NUMBER, TEXT, bounds)[1], {"A": [], "B": []})

    def test_told_alike_each_time(self):
        one = shape(("a", A), ("b", EITHER)) + row(A)
        bounds = {"A": EITHER}
        self.assertEqual(ground(one, row(A), bounds), ground(one, row(A), bounds))
        self.assertEqual(joined([lean(one, bounds)]), lean(one, bounds))


class Deep(Cases):

    def test_eight_deep_and_beyond(self):
        for depth in (8, 20):
            for wrap in (row, book, lambda kind: shape(("a", kind))):
                one, other = EITHER, NUMBER
                for _ in range(depth):
                    one, other = wrap(one), wrap(other)
                self.fitting(other, one)
                self.unfitting(one, other)


if __name__ == "__main__":
    unittest.main()
