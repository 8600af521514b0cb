"""What fits: whether all values of one kind are of another, and a value that shows where not.

What a search finds is a pair: a value, and a tuple of pairs (letter, value) that tells which values stand
for letters. All numbers and texts of a search are different, so what stands for a letter in one part of a
value says nothing about another part: each part can be searched for by itself.
"""

from soothcheck.kinds import choice_head, head_answers, joined, shape_head, shown_kind
from soothcheck.values import is_of


class Search:
    """The bounds of a search, and the last number that it has used."""

    def __init__(self, bounds):
        self.bounds = bounds
        self.last = 0

    def fresh(self):
        """A number that this search has not used before."""
        self.last += 1
        return self.last


def fits(one, other, bounds):
    """Whether each value of one is of other at each standing within the bounds."""
    return ground(one, other, bounds) is None


def ground(one, other, bounds):
    """A value of one and not of other with a standing where it is so; None where one fits other."""
    found = _find(one, other, Search(bounds))
    if found is None:
        return None
    value, stands = found
    return (value, _standing(stands, bounds))


def _standing(stands, bounds):
    standing = {letter: [] for letter in bounds}
    for letter, value in stands:
        standing[letter].append(value)
    return standing


def lean(kind, bounds):
    """The kind's choices, joined, without each that fits what is left of the others when its turn comes."""
    left = joined([kind])
    for choice in joined([kind]):
        others = tuple([rest for rest in left if rest != choice])
        if fits((choice,), others, bounds):
            left = others
    return left


def _find(kind, other, search):
    """What is found of the kind and not of other; None where there is nothing."""
    for choice in kind:
        found = _find_in_choice(choice, other, search)
        if found is not None:
            return found
    return None


def _find_in_choice(choice, other, search):
    if choice in other:
        return None
    word = choice[0]
    if word in ("letter", "cut"):
        return _find_in_letter(choice, other, search)
    if word in ("row", "book"):
        return _find_in_holder(choice, other, search)
    if word == "shape":
        return _find_in_shape(choice[1], other, search)
    # A fresh value stands for no letter, so nothing but the choice itself could have held it.
    if word == "number":
        return (search.fresh(), ())
    return (f"t{search.fresh()}", ())


def _find_in_letter(choice, other, search):
    letter = choice[1]
    for within in search.bounds[letter]:
        head = choice_head(within)
        if _takes(choice, letter, head) and not any([_takes(rest, letter, head) for rest in other]):
            found = _find_in_choice(within, other, search)
            if found is not None:
                value, stands = found
                return (value, stands + ((letter, value),))
    return None


def _takes(choice, letter, head):
    """Whether the choice is the letter, or a cut of it that has the head."""
    if choice[0] == "cut":
        return choice[1] == letter and head in choice[2]
    return choice == ("letter", letter)


def _find_in_holder(choice, other, search):
    """What is found of a row's or a book's choice and not of other."""
    word, kind = choice
    if ("some", word) in other:
        return None
    findings = _findings_within(kind, [rest[1] for rest in other if rest[0] == word], search)
    if findings is None:
        return None
    values = [value for value, _ in findings]
    if word == "row":
        return (values, _stands_of(findings))
    return ({f"k{search.fresh()}": value for value in values}, _stands_of(findings))


def _findings_within(kind, others, search):
    """For each of the other kinds something of the kind that is not of it; None where one has nothing."""
    if len(others) == 0:
        # Something within, where there can be: all rows and books without anything are equal.
        found = _find(kind, (), search)
        return [] if found is None else [found]
    findings = []
    for other in others:
        found = _find(kind, other, search)
        if found is None:
            return None
        findings.append(found)
    return findings


def _stands_of(findings):
    return tuple([pair for _, stands in findings for pair in stands])


def _find_in_shape(fields, other, search):
    """What is found of the shapes with these fields and not of other.

    As long as a rival, a shape's choice of other, holds what was found, some field has to lie outside of
    the rival's: each is tried. A side is a pair for a field: what it has to lie outside of, and what was
    found there.
    """
    head = shape_head(fields)
    if any([rest[0] == "with" and head_answers(head, ("has", rest[1])) for rest in other]):
        return None
    rivals = [rest for rest in other if rest[0] == "shape"]
    start = [((), _find(kind, (), search)) for _, kind in fields]
    if any([side[1] is None for side in start]):
        return None
    waiting = [start]
    seen = set()
    while len(waiting) > 0:
        sides = waiting.pop()
        found = _shape_of(fields, [side[1] for side in sides])
        rival = _rival_that_holds(found, rivals, search.bounds)
        if rival is None:
            return found
        for way in _ways_out(fields, sides, rival, search):
            # The same way is come to in many orders.
            key = "; ".join([shown_kind(side[0]) for side in way])
            if key not in seen:
                seen.add(key)
                waiting.append(way)
    return None


def _shape_of(fields, findings):
    value = tuple([(pair[0], found[0]) for pair, found in zip(fields, findings)])
    return (value, _stands_of(findings))


def _rival_that_holds(found, rivals, bounds):
    value, stands = found
    standing = _standing(stands, bounds)
    for rival in rivals:
        if is_of(value, (rival,), standing):
            return rival
    return None


def _ways_out(fields, sides, rival, search):
    """The sides with one field's changed so that it lies outside of the rival's, for each where it can."""
    ways = []
    for at, (_, kind) in enumerate(fields):
        left_out = joined([sides[at][0], rival[1][at][1]])
        found = _find(kind, left_out, search)
        if found is not None:
            ways.append(sides[:at] + [(left_out, found)] + sides[at + 1:])
    return ways
