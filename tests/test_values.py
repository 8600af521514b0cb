"""Points 2 to 4 and 1: values, their heads, and which are of a kind at a standing."""

import copy
import unittest

from soothcheck.values import head_of, is_of
from tests.kind_makers import A, B, NUMBER, TEXT, book, cut, row, shape

EITHER = NUMBER + TEXT
SOME_ROW = (("some", "row"),)
SOME_BOOK = (("some", "book"),)


class Cases(unittest.TestCase):

    def look_at(self, kind, standing, inside, outside):
        for value in inside:
            with self.subTest(kind=kind, standing=standing, inside=value):
                self.assertIs(is_of(value, kind, standing), True)
        for value in outside:
            with self.subTest(kind=kind, standing=standing, outside=value):
                self.assertIs(is_of(value, kind, standing), False)


class Heads(unittest.TestCase):

    def test_numbers(self):
        for value in (0, 1, -7, 10 ** 40):
            self.assertEqual(head_of(value), "number")

    def test_texts(self):
        for value in ("", "a", "number", "two words\n"):
            self.assertEqual(head_of(value), "text")

    def test_rows_and_books(self):
        for value in ([], [1], [[], "a"]):
            self.assertEqual(head_of(value), "row")
        for value in ({}, {"": 1}, {"a": {}}):
            self.assertEqual(head_of(value), "book")

    def test_shapes(self):
        self.assertEqual(head_of((("a", 1),)), "shape a")
        self.assertEqual(head_of((("a", []), ("b", "x"), ("cc", 3))), "shape a b cc")
        self.assertEqual(head_of((("abcdefgh", (("in", 1),)),)), "shape abcdefgh")
        self.assertEqual(head_of((("number", 1), ("row", 2))), "shape number row")

    def test_true_and_false_are_no_numbers(self):
        self.assertEqual(head_of(True), "")
        self.assertEqual(head_of(False), "")


class Plain(Cases):

    def test_numbers_and_texts(self):
        others = [[], [1], {}, {"a": 1}, (("a", 1),)]
        self.look_at(NUMBER, {}, [0, -1, 10 ** 40], ["", "1", *others])
        self.look_at(TEXT, {}, ["", "1", "number"], [0, 1, *others])

    def test_true_and_false_are_of_nothing(self):
        kinds = [NUMBER, EITHER, A, cut("A", "number"), SOME_ROW, SOME_BOOK]
        for kind in kinds:
            self.look_at(kind, {"A": [0, 1, "x"]}, [], [True, False])
        self.look_at(row(NUMBER), {}, [[1, 0]], [[True], [1, False]])
        self.look_at(book(NUMBER), {}, [{"a": 1}], [{"a": True}])
        self.look_at(shape(("a", NUMBER)), {}, [(("a", 1),)], [(("a", True),)])
        self.look_at(A, {"A": [[1], (("a", 0),)]},
                     [[1], (("a", 0),)], [[True], (("a", False),)])

    def test_one_of_several_choices_is_enough(self):
        self.look_at(EITHER, {}, [1, "x"], [[], {}, (("a", 1),)])
        self.look_at(row(EITHER), {}, [[1, "x"], ["x"], []], [[1, []]])
        self.look_at(row(NUMBER) + row(TEXT), {}, [[1, 2], ["x"], []], [[1, "x"], 1])

    def test_a_choice_may_stand_twice(self):
        self.look_at(NUMBER + NUMBER, {}, [1], ["x"])
        self.look_at(row(TEXT + TEXT) + row(TEXT), {}, [["x"], []], [[1]])

    def test_of_no_choice_there_is_no_value(self):
        self.look_at((), {}, [], [0, "", [], {}, (("a", 1),)])

    def test_rows_and_books(self):
        self.look_at(row(NUMBER), {}, [[], [1], [1, 2]], [["x"], [1, "x"], ["x", 1], {}, 1, "", (("a", 1),)])
        self.look_at(book(TEXT), {}, [{}, {"a": "x"}, {"": "", "b c": "y"}],
                     [{"a": 1}, {"a": "x", "b": 1}, {"a": 1, "b": "x"}, [], ["x"], (("a", "x"),)])
        self.look_at(row(row(NUMBER)), {}, [[], [[]], [[1], []]], [[1], [["x"]], [[[]]]])
        self.look_at(book(book(NUMBER)), {}, [{}, {"a": {}}, {"a": {"b": 1}}], [{"a": 1}, {"a": {"b": "x"}}])

    def test_rows_and_books_of_no_choice_hold_nothing(self):
        self.look_at(row(()), {}, [[]], [[1], [[]], {}])
        self.look_at(book(()), {}, [{}], [{"a": 1}, []])

    def test_shapes_have_just_the_fields(self):
        self.look_at(shape(("a", NUMBER)), {}, [(("a", 1),)],
                     [(("a", "x"),), (("b", 1),), (("a", 1), ("b", 1)), {"a": 1}, [("a", 1)], 1])
        two = shape(("a", NUMBER), ("b", row(TEXT)))
        self.look_at(two, {}, [(("a", 1), ("b", [])), (("a", 1), ("b", ["x"]))],
                     [(("a", "x"), ("b", [])), (("a", 1), ("b", [1])), (("a", 1),), (("b", []),),
                      (("a", 1), ("c", [])), (("a", 1), ("b", []), ("c", 1)), (("aa", 1), ("b", []))])
        self.look_at(shape(("a", shape(("b", TEXT)))), {}, [(("a", (("b", "x"),)),)],
                     [(("a", (("b", 1),)),), (("a", "x"),), (("b", (("a", "x"),)),)])

    def test_a_field_of_no_choice(self):
        self.look_at(shape(("a", ())), {}, [], [(("a", 1),), (("a", []),)])

    def test_what_is_no_value_is_of_nothing(self):
        odd = [None, {1: 2}, (), (("b", 1), ("a", 2)), (("a", 1), ("a", 1)), ("a",), ((1, 2),), [None], {"a": ()}]
        due = (("some", "book"), ("some", "row"), ("with", "a"), ("number",), ("text",))
        self.look_at(due, {}, [], odd)
        self.look_at(row(due) + book(due), {}, [], [[odd_one] for odd_one in odd])


class Letters(Cases):

    def test_what_the_letter_stands_for(self):
        self.look_at(A, {"A": [1, "x", [2]]}, [1, "x", [2]], [2, "", [], [1], {}])

    def test_letters_with_one_value_or_none(self):
        self.look_at(A, {"A": []}, [], [0, "", [], {}])
        self.look_at(A, {"A": [0]}, [0], [1, ""])
        self.look_at(A, {"A": [[]]}, [[]], [[[]], {}, 0])

    def test_equal_values_are_the_same(self):
        standing = {"A": [[1, {"a": 2, "b": 3}], (("a", [0]),)]}
        self.look_at(A, standing, [[1, {"b": 3, "a": 2}], (("a", [0]),)], [[1, {"a": 2}], (("a", 0),)])

    def test_several_letters(self):
        standing = {"A": [1], "B": ["x", 2], "ABCDEFGH": [3]}
        self.look_at(B, standing, ["x", 2], [1, 3])
        self.look_at(A + B, standing, [1, 2, "x"], [3])
        self.look_at((("letter", "ABCDEFGH"),), standing, [3], [1, 2])

    def test_letters_within(self):
        standing = {"A": [1, "x"]}
        self.look_at(row(A), standing, [[], [1, "x", 1]], [[2], [1, 2], 1])
        self.look_at(book(A), standing, [{}, {"k": 1}], [{"k": 2}])
        self.look_at(shape(("a", A)), standing, [(("a", "x"),)], [(("a", "y"),)])
        self.look_at(row(A), {"A": []}, [[]], [[1], [[]]])
        self.look_at(shape(("a", A)), {"A": []}, [], [(("a", 1),)])

    def test_cuts(self):
        standing = {"A": [1, "x", [], [1], (("a", 1),), (("a", 1), ("b", 2))]}
        self.look_at(cut("A", "number"), standing, [1], [2, "x", []])
        self.look_at(cut("A", "row", "shape a b"), standing,
                     [[], [1], (("a", 1), ("b", 2))], [1, "x", [2], (("a", 1),), (("a", 1), ("b", 3))])
        self.look_at(cut("A", "book"), standing, [], [{}, 1])
        self.look_at(row(cut("A", "text")), standing, [[], ["x"]], [[1], ["y"]])

    def test_cuts_of_letters_with_one_value_or_none(self):
        kind = cut("A", "number")
        self.look_at(kind, {"A": []}, [], [1, "x"])
        self.look_at(kind, {"A": ["x"]}, [], [1, "x"])
        self.look_at(kind, {"A": [1]}, [1], [2, "x"])


class Due(Cases):

    def test_all_rows_and_all_books(self):
        rows = [[], [1], ["x", [1], {}]]
        books = [{}, {"a": 1}, {"a": [], "b": "x"}]
        rest = [1, "x", "row", "book", (("row", 1),), (("book", 1),)]
        self.look_at(SOME_ROW, {}, rows, books + rest)
        self.look_at(SOME_BOOK, {}, books, rows + rest)
        self.look_at(SOME_BOOK + SOME_ROW + TEXT, {}, [*rows, *books, "", "x"], [1, (("row", 1),)])

    def test_all_shapes_with_a_field(self):
        self.look_at((("with", "b"),), {},
                     [(("b", 1),), (("a", 1), ("b", [])), (("b", ""), ("c", 1)), (("a", 1), ("b", 2), ("c", 3))],
                     [(("a", 1),), (("bb", 1),), (("a", (("b", 1),)),), {"b": 1}, ["b"], "b", 1])

    def test_a_field_called_as_a_head_is(self):
        self.look_at((("with", "shape"),), {}, [(("shape", 1),)], [(("a", 1),)])
        self.look_at((("with", "row"),), {}, [(("row", 1),)], [[], (("a", 1),)])
        self.look_at((("with", "number"),), {}, [(("number", 1),)], [1])


class Unchanged(unittest.TestCase):

    def test_what_is_handed_in_stays(self):
        value = [[1, "x"], [(("a", {"k": [2]}),)]]
        standing = {"A": [1, "x"], "B": [[], [2]]}
        inner = shape(("a", book(B))) + A
        before = copy.deepcopy((value, standing))
        self.assertIs(is_of(value, row(row(inner)), standing), True)
        self.assertEqual(head_of(value), "row")
        self.assertEqual((value, standing), before)


class Deep(unittest.TestCase):

    def test_kinds_of_eight_and_somewhat_more(self):
        kind, value, wrong = NUMBER, 1, "x"
        for _ in range(20):
            kind, value, wrong = row(kind), [value], [wrong]
            self.assertIs(is_of(value, kind, {}), True)
            self.assertIs(is_of(wrong, kind, {}), False)

    def test_values_may_be_deeper_than_calls(self):
        value = []
        for _ in range(5000):
            value = [value]
        self.assertIs(is_of(value, SOME_ROW, {}), True)
        self.assertIs(is_of(value, row(row(NUMBER)), {}), False)

    def test_fields_of_nine_letters_raise_no_error(self):
        self.assertEqual(head_of((("abcdefghi", 1),)), "shape abcdefghi")
        self.assertIs(is_of((("abcdefghi", 1),), (("with", "abcdefghi"),), {}), True)

    def test_fields_of_other_signs_are_none(self):
        for field in ("A", "a1", "a b", "a-", "\xe4"):
            self.assertIs(is_of(((field, 1),), (("with", field),), {}), False)
            self.assertIs(is_of([((field, 1),)], SOME_ROW, {}), False)


if __name__ == "__main__":
    unittest.main()
