"""Kinds: their texts, what is none, and what is made of them.

A kind is a tuple of choices, a choice a tuple that begins with its word.
"""

from soothcheck.errors import BadKind

LONGEST_WORD = 8
DEEPEST_KIND = 8


def shown_kind(kind):
    """The text of a kind, or of what is due."""
    return " | ".join([shown_choice(choice) for choice in kind])


def shown_choice(choice):
    """The text of one choice."""
    word = choice[0]
    if word in ("row", "book"):
        return f"{word}({shown_kind(choice[1])})"
    if word == "shape":
        fields = [f"{field}: {shown_kind(inner)}" for field, inner in choice[1]]
        return "{" + ", ".join(fields) + "}"
    if word == "letter":
        return choice[1]
    if word == "cut":
        return choice[1] + "(" + ", ".join(choice[2]) + ")"
    # The texts of number and text, and of what may be due besides, are their words.
    return " ".join(choice)


def need_kind(kind, letters):
    """Refuse with BadKind what is no kind whose letters are among these."""
    _need_kind_within(kind, letters, DEEPEST_KIND)


def _need_kind_within(kind, letters, room):
    # Looking at the room first ends the way down however deep the kind is.
    if room < 0:
        raise BadKind(f"a kind is more than {DEEPEST_KIND} deep")
    if not isinstance(kind, tuple) or len(kind) == 0:
        raise BadKind("a kind is not a tuple of one or more choices")
    for choice in kind:
        _need_choice(choice, letters, room)


def _need_choice(choice, letters, room):
    if choice == ("number",) or choice == ("text",):
        return
    if not isinstance(choice, tuple) or len(choice) != 2:
        raise BadKind("a choice is not of a form that kinds have")
    word, told = choice
    if word == "row" or word == "book":
        _need_kind_within(told, letters, room - 1)
    elif word == "shape":
        _need_fields(told, letters, room - 1)
    elif word == "letter":
        _need_letter(told, letters)
    else:
        raise BadKind("a choice has a word that kinds do not have")


def _need_fields(fields, letters, room):
    if not are_fields(fields):
        raise BadKind("a shape's fields are not one or more pairs, ascending, each field once")
    for field, kind in fields:
        if not is_word(field):
            raise BadKind(f"a field is not one to {LONGEST_WORD} of the letters a to z")
        _need_kind_within(kind, letters, room)


def _need_letter(letter, letters):
    if not is_letter(letter):
        raise BadKind(f"a letter is not one to {LONGEST_WORD} of A to Z")
    if letter not in letters:
        raise BadKind(f"the letter {letter} is not among the told ones")


def is_word(thing):
    """Whether this can be a field or a name."""
    return _has_word_length(thing) and has_word_signs(thing)


def has_word_signs(text):
    """Whether the text has no other signs than words have, however long it is."""
    return all("a" <= sign <= "z" for sign in text)


def is_letter(thing):
    """Whether this can be a letter of kinds."""
    return _has_word_length(thing) and all("A" <= sign <= "Z" for sign in thing)


def _has_word_length(thing):
    return isinstance(thing, str) and 1 <= len(thing) <= LONGEST_WORD


def are_fields(thing):
    """Whether this is a tuple of one or more pairs led by texts, these ascending, each once."""
    if not isinstance(thing, tuple) or len(thing) == 0:
        return False
    for pair in thing:
        if not isinstance(pair, tuple) or len(pair) != 2 or not isinstance(pair[0], str):
            return False
    fields = [pair[0] for pair in thing]
    return fields == sorted(set(fields))


def joined(kinds):
    """One kind of all the choices of some, each once, ascending by its text."""
    # Two choices have the same text only where they are the same, and a text is a short key.
    by_text = {}
    for kind in kinds:
        for choice in kind:
            by_text[shown_choice(choice)] = choice
    return tuple([by_text[text] for text in sorted(by_text)])


def put_in(kind, given):
    """The kind with given kinds in its letters' places, joined but for what is given.

    A letter that is given none stays.
    """
    return joined([_put_in_choice(choice, given) for choice in kind])


def _put_in_choice(choice, given):
    word = choice[0]
    if word == "letter":
        return given.get(choice[1], (choice,))
    if word in ("row", "book"):
        return ((word, put_in(choice[1], given)),)
    if word == "shape":
        fields = [(field, put_in(inner, given)) for field, inner in choice[1]]
        return (("shape", tuple(fields)),)
    return (choice,)


def opened(kind, bounds):
    """The kind with its outer letters and cuts replaced by what their bounds have, joined."""
    return joined([_opened_choice(choice, bounds) for choice in kind])


def _opened_choice(choice, bounds):
    if choice[0] == "letter":
        return bounds[choice[1]]
    if choice[0] == "cut":
        bound = bounds[choice[1]]
        return tuple([within for within in bound if choice_head(within) in choice[2]])
    return (choice,)


def narrowed(kind, bounds, ask):
    """What is left of the kind where the answer is yes, and what where it is no."""
    return (_narrowed_side(kind, bounds, ask, True), _narrowed_side(kind, bounds, ask, False))


def _narrowed_side(kind, bounds, ask, answer):
    return joined([_left_of_choice(choice, bounds, ask, answer) for choice in kind])


def _left_of_choice(choice, bounds, ask, answer):
    heads = _heads_of_choice(choice, bounds)
    left = [head for head in heads if head_answers(head, ask) == answer]
    if len(left) == 0:
        return ()
    if choice[0] not in ("letter", "cut"):
        return (choice,)
    letter = choice[1]
    if left == _heads_of_bound(bounds[letter]):
        return (("letter", letter),)
    return (("cut", letter, tuple(left)),)


def _heads_of_choice(choice, bounds):
    if choice[0] == "letter":
        return _heads_of_bound(bounds[choice[1]])
    if choice[0] == "cut":
        return list(choice[2])
    return [choice_head(choice)]


def _heads_of_bound(bound):
    return sorted(set([choice_head(choice) for choice in bound]))


def choice_head(choice):
    """The head of all values of a choice that is neither a letter nor a cut."""
    if choice[0] == "shape":
        return shape_head(choice[1])
    return choice[0]


def shape_head(pairs):
    """The head of shapes with the fields that lead these pairs."""
    return " ".join(["shape"] + [pair[0] for pair in pairs])


def head_answers(head, ask):
    """Whether values of this head are answered yes."""
    words = head.split(" ")
    if ask[0] == "is":
        return words[0] == ask[1]
    return ask[1] in words[1:]
