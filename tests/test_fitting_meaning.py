"""Points 9, 10 and 1: fits, ground and lean against all of some values at all of some standings."""

import itertools
import unittest

from soothcheck.fitting import fits, ground, lean
from soothcheck.values import is_of
from tests.fit_cases import Cases
from tests.kind_makers import A, B, NUMBER, TEXT, book, cut, row, shape

EITHER = NUMBER + TEXT
BOUNDS = {"A": EITHER + row(NUMBER), "B": EITHER}

PLAIN = [1, 2, "x"]
WITHIN = [*PLAIN, [], [1], ["x"], [1, "x"]]
VALUES = [
    *WITHIN, [2], [1, 2], [[]], [[1]], [[1], [2]], [[1], ["x"]], [[1, "x"]], [1, [1]], ["x", [1]],
    {}, {"k": 1}, {"k": "x"}, {"k": 1, "l": "x"}, {"k": [1]},
    *[(("a", one),) for one in WITHIN], *[(("b", one),) for one in PLAIN],
    *[(("a", one), ("b", other)) for one, other in itertools.product(WITHIN, PLAIN)],
]

CHOICES = [
    NUMBER, TEXT, A, B, cut("A", "number"), cut("A", "row", "text"), cut("B", "number"), cut("B", "text"),
    row(()), row(NUMBER), row(EITHER), row(A), row(B), row(cut("A", "number") + row(TEXT)), row(row(NUMBER)),
    book(()), book(NUMBER), book(A),
    shape(("a", NUMBER)), shape(("a", A)), shape(("a", EITHER)), shape(("a", row(EITHER))), shape(("b", B)),
    shape(("a", A), ("b", EITHER)), shape(("a", NUMBER), ("b", EITHER)), shape(("a", TEXT + row(NUMBER)), ("b", NUMBER)),
    shape(("a", cut("A", "number")), ("b", B)), shape(("a", cut("A", "row", "text")), ("b", TEXT)),
    (("some", "row"),), (("some", "book"),), (("with", "a"),), (("with", "b"),),
]
# The last four are of what is due alone.
KINDS = CHOICES[:-4]


def standings():
    of_a = [1, 2, "x", [], [1], [2], [1, 2]]
    of_b = [1, 2, "x"]
    some_a = [[], of_a, *[[value] for value in of_a], [1, "x", [1]], [1, []], [2, [2]]]
    some_b = [[], of_b, [1], ["x"], [2, "x"]]
    return [{"A": list(a), "B": list(b)} for a, b in itertools.product(some_a, some_b)]


class Meaning(Cases):

    @classmethod
    def setUpClass(cls):
        # For each choice a number with a bit for each value at each standing.
        pairs = list(itertools.product(VALUES, standings()))
        cls.held = {choice: sum(1 << at for at, (value, standing) in enumerate(pairs)
                                if is_of(value, choice, standing))
                    for choice in CHOICES}

    def look_at(self, one, held_by_one, other, held_by_other):
        told = ground(one, other, BOUNDS)
        if told is None:
            self.assertEqual(held_by_one & ~held_by_other, 0, (one, other))
        else:
            self.look_at_shown(told[0], told[1], one, other, BOUNDS)

    def test_one_choice_against_two(self):
        for one in KINDS:
            for first, second in itertools.combinations_with_replacement(CHOICES, 2):
                self.look_at(one, self.held[one], first + second, self.held[first] | self.held[second])

    def test_two_choices_against_one(self):
        for first, second in itertools.combinations(KINDS, 2):
            for other in CHOICES:
                self.look_at(first + second, self.held[first] | self.held[second], other, self.held[other])

    def test_one_choice_against_three_shapes(self):
        shapes = [choice for choice in KINDS if choice[0][0] == "shape"]
        for one in shapes:
            for others in itertools.combinations(shapes, 3):
                held = self.held[others[0]] | self.held[others[1]] | self.held[others[2]]
                self.look_at(one, self.held[one], others[0] + others[1] + others[2], held)

    def test_lean_leaves_the_same_values(self):
        for three in itertools.combinations(KINDS[::2], 3):
            kind = three[0] + three[1] + three[2]
            told = lean(kind, BOUNDS)
            self.assertTrue(fits(kind, told, BOUNDS) and fits(told, kind, BOUNDS), kind)
            for at in range(len(told)):
                self.assertFalse(fits(told[at:at + 1], told[:at] + told[at + 1:], BOUNDS), kind)


if __name__ == "__main__":
    unittest.main()
