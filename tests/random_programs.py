"""Programs that most often pass, and values of kinds, made up by a random source with a seed."""

from soothcheck.checking import found_kind
from soothcheck.errors import Refused
from soothcheck.fitting import fits
from soothcheck.kinds import choice_head, joined, narrowed, opened, put_in, shown_kind

FIELDS = ["a", "b", "c"]
NAMES = ["x", "y", "z", "w", "plus"]
WORDS = ["row", "norow", "nobook", "shape", "get", "plus", "minus", "join", "size", "push", "at", "put", "look", "let",
         "each", "fold", "if", "is", "is", "is", "call", "call", "get", "get"]
# The heads that are wanted of what follows a word; of some any.
WANTED = {
    "plus": ("number", "number"), "minus": ("number", "number"), "join": ("text", "text"), "size": ("row",),
    "push": ("row", None), "at": ("row", "number", None), "put": ("book", "text", None), "look": ("book", "text", None),
    "if": ("number", "number", None, None),
}
# Words of parts that most often have a head.
MAKING = {
    "number": ["plus", "minus", "size", "at", "look", "fold", "call"], "text": ["join", "at", "look", "if"],
    "row": ["row", "norow", "push", "each", "call"], "book": ["nobook", "put", "put", "call"],
}
LONGEST_KIND = 300
# No part that is made here has the field, so none fits this result.
NEVER = (("shape", (("never", (("number",),)),)),)
DEEPEST_RESULT = 7


def some_kind(source, depth, letters):
    choices = []
    for _ in range(source.choice([1, 1, 1, 2, 2, 3])):
        draw = source.random()
        if depth == 0 or draw < 0.45:
            choices.append(source.choice([("number",), ("text",)] + [("letter", letter) for letter in letters] * 2))
        elif draw < 0.78:
            choices.append((source.choice(["row", "row", "book"]), some_kind(source, depth - 1, letters)))
        else:
            fields = sorted(source.sample(FIELDS, source.choice([1, 1, 2])))
            choices.append(("shape", tuple((field, some_kind(source, depth - 1, letters)) for field in fields)))
    return tuple(choices)


def some_value(source, kind, standing):
    """A value of the kind at the standing; None where there is none that is easy to find."""
    for choice in source.sample(kind, len(kind)):
        value = some_value_of_choice(source, choice, standing)
        if value is not None:
            return value
    return None


def some_value_of_choice(source, choice, standing):
    word = choice[0]
    if word == "number":
        return source.choice([-1, 0, 1, 2, 10 ** 20])
    if word == "text":
        return source.choice(["", "a", "xy"])
    if word == "letter":
        return source.choice(standing[choice[1]]) if standing[choice[1]] else None
    if word == "shape":
        pairs = tuple((field, some_value(source, kind, standing)) for field, kind in choice[1])
        return None if any(value is None for _, value in pairs) else pairs
    values = [some_value(source, choice[1], standing) for _ in range(source.choice([0, 1, 2]))]
    values = [value for value in values if value is not None]
    return values if word == "row" else dict(zip(source.sample(["", "a", "b", "xy"], len(values)), values))


def some_standing(source, bounds):
    return {letter: [some_value(source, bound, {}) for _ in range(source.choice([0, 1, 3]))]
            for letter, bound in bounds.items()}


def without_cuts(kind):
    """The kind with letters for their cuts: a kind that a program may tell."""
    choices = []
    for choice in kind:
        if choice[0] == "cut":
            choices.append(("letter", choice[1]))
        elif choice[0] in ("row", "book"):
            choices.append((choice[0], without_cuts(choice[1])))
        elif choice[0] == "shape":
            choices.append(("shape", tuple((field, without_cuts(within)) for field, within in choice[1])))
        else:
            choices.append(choice)
    return joined([tuple(choices)])


def depth_of(kind):
    within = [choice[1] for choice in kind if choice[0] in ("row", "book")]
    within += [inner for choice in kind if choice[0] == "shape" for _, inner in choice[1]]
    return max([1 + depth_of(inner) for inner in within], default=0)


class Maker:
    """Makes the parts of one function, behind the functions that are told earlier."""

    def __init__(self, source, earlier, letters):
        self.source = source
        self.earlier = earlier
        self.letters = letters

    def kind_of(self, part, names):
        """The kind found of a part, near enough where names have cuts; None where what is in it does not fit."""
        if any(depth_of(kind) > DEEPEST_RESULT for kind in names.values()):
            return None
        params = tuple((name, without_cuts(kind)) for name, kind in names.items())
        try:
            return found_kind(self.earlier + [("asked", self.letters, params, NEVER, part)], "asked")
        except Refused as e:
            return e.found if e.due == NEVER else None

    def heads_of(self, kind):
        return {choice_head(choice) for choice in opened(kind, dict(self.letters))}

    def part(self, names, depth, wanted=None):
        source = self.source
        fit = [name for name in sorted(names) if wanted is None or self.heads_of(names[name]) == {wanted}]
        if fit and source.random() < (0.2 if wanted is None else 0.6):
            return ("name", source.choice(fit))
        if depth > 0:
            for _ in range(6):
                part = self.larger(source.choice(MAKING.get(wanted, WORDS)), names, depth - 1)
                kind = None if part is None else self.kind_of(part, names)
                if kind is not None and len(shown_kind(kind)) < LONGEST_KIND:
                    if wanted is None or self.heads_of(kind) == {wanted}:
                        return part
        return self.smallest(source.choice(["number", "text", "row", "book"]) if wanted is None else wanted)

    def smallest(self, head):
        source = self.source
        if head == "number":
            return ("num", source.choice([0, 1, 2, -3]))
        if head == "text":
            return ("text", source.choice(["", "a", "q\"\\b"]))
        return ("no" + head, some_kind(source, 1, [letter for letter, _ in self.letters]))

    def larger(self, word, names, depth):
        source = self.source
        if word in ("norow", "nobook"):
            return self.smallest(word[2:])
        if word == "row":
            return (word, tuple(self.part(names, depth) for _ in range(source.choice([1, 2]))))
        if word == "shape":
            fields = sorted(source.sample(FIELDS, source.choice([1, 2])))
            return (word, tuple((field, self.part(names, depth)) for field in fields))
        if word == "get":
            return self.getting(names)
        if word in ("let", "each", "fold"):
            return self.giving(word, names, depth)
        if word == "is":
            return self.asking(names, depth)
        if word == "call":
            return self.calling(names, depth)
        return (word, *[self.part(names, depth, wanted) for wanted in WANTED[word]])

    def giving(self, word, names, depth):
        source = self.source
        name, other = source.sample(NAMES, 2)
        worth = self.part(names, depth, None if word == "let" else "row")
        kind = self.kind_of(worth if word == "let" else ("each", "q", worth, ("name", "q")), names)
        if kind is None:
            return None
        if word == "let":
            return (word, name, worth, self.part({**names, name: kind}, depth))
        within = kind[0][1]
        if word == "each":
            return (word, name, worth, self.part({**names, name: within}, depth))
        first = self.part(names, depth)
        found = self.kind_of(first, names)
        if found is None:
            return None
        more = some_kind(source, 1, [letter for letter, _ in self.letters])
        kind = without_cuts(found + source.choice([(), more]))
        known = {**names, name: within, other: kind}
        last = self.fitting(kind, known, depth) if source.random() < 0.6 else self.part(known, depth)
        return None if last is None else (word, name, worth, other, kind, first, last)

    def getting(self, names):
        held = [(name, field) for name in sorted(names) for field in FIELDS
                if all(field in head.split(" ")[1:] for head in self.heads_of(names[name]))]
        if not held:
            return None
        name, field = self.source.choice(held)
        return ("get", ("name", name), field)

    def asking(self, names, depth):
        several = [name for name in sorted(names) if len(self.heads_of(names[name])) > 1]
        if not several:
            return None
        name = self.source.choice(several)
        head = self.source.choice(sorted(self.heads_of(names[name]))).split(" ")
        ask = ("has", self.source.choice(head[1:])) if self.source.random() < 0.5 and head[1:] else ("is", head[0])
        sides = narrowed(names[name], dict(self.letters), ask)
        ways = [self.part({**names, name: side}, depth) if side else ("num", 9) for side in sides]
        return (ask[0], name, ask[1], *ways)

    def calling(self, names, depth):
        if not self.earlier:
            return None
        called, letters, params, _, _ = self.source.choice(self.earlier)
        given = {letter: self.some_under(bound, names) for letter, bound in letters}
        handed = tuple(self.fitting(put_in(kind, given), names, depth) for _, kind in params)
        return None if None in handed else ("call", called, tuple(given.values()), handed)

    def some_under(self, bound, names):
        """Some kind that fits a letter's bound: some of its choices, or the kind of a name."""
        kinds = [without_cuts(kind) for _, kind in sorted(names.items()) if fits(kind, bound, dict(self.letters))]
        kinds = [kind for kind in kinds if depth_of(kind) < 4]
        if kinds and self.source.random() < 0.5:
            return self.source.choice(kinds)
        return tuple(self.source.sample(bound, self.source.randint(1, len(bound))))

    def fitting(self, kind, names, depth):
        """A part that fits the kind: a name, a part that happens to, or one that is made for it."""
        source = self.source
        fit = [name for name in sorted(names) if fits(names[name], kind, dict(self.letters))]
        if fit and source.random() < 0.7:
            return ("name", source.choice(fit))
        part = self.part(names, depth)
        found = self.kind_of(part, names)
        if found is not None and fits(found, kind, dict(self.letters)):
            return part
        for choice in source.sample(kind, len(kind)):
            if choice[0] in ("number", "text"):
                return self.smallest(choice[0])
            if choice[0] in ("row", "book"):
                return ("no" + choice[0], choice[1])
            if choice[0] == "shape":
                pairs = tuple((field, self.fitting(within, names, depth)) for field, within in choice[1])
                if None not in [part for _, part in pairs]:
                    return ("shape", pairs)
        return ("name", source.choice(fit)) if fit else None


def some_program(source):
    """A program of one to three functions."""
    program = []
    for name in ["f", "g", "h"][:source.choice([1, 2, 3])]:
        letters = tuple((letter, some_kind(source, 1, [])) for letter in ["A", "B"][:source.choice([0, 1, 1, 2])])
        own = [letter for letter, _ in letters]
        params = tuple((param, some_kind(source, 2, own)) for param in ["x", "y", "z"][:source.choice([1, 2, 3])])
        maker = Maker(source, program, letters)
        body = maker.part(dict(params), source.choice([2, 3, 4]))
        kind = maker.kind_of(body, dict(params))
        result = (("number",),) if kind is None else without_cuts(kind)
        if depth_of(result) <= DEEPEST_RESULT:
            program = program + [(name, letters, params, result, body)]
    return program
