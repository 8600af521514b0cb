"""Values: their heads, and which of them are of a kind."""

from soothcheck.kinds import are_fields, choice_head, has_word_signs, head_answers, shape_head


def head_of(value):
    """The head of a value; True and False, which are none, have the empty text."""
    if isinstance(value, bool):
        return ""
    if isinstance(value, int):
        return "number"
    if isinstance(value, str):
        return "text"
    if isinstance(value, list):
        return "row"
    if isinstance(value, dict):
        return "book"
    return shape_head(value)


def is_value(thing):
    """Whether this is a value, and all within it, too."""
    # A list of what is still to be looked at, since values may be deeper than calls may go.
    waiting = [thing]
    while len(waiting) > 0:
        part = waiting.pop()
        if not _may_be_value(part):
            return False
        waiting.extend(parts_of(part))
    return True


def _may_be_value(thing):
    # Python counts True and False among the integers.
    if isinstance(thing, bool):
        return False
    if isinstance(thing, dict):
        return all(isinstance(key, str) for key in thing)
    if isinstance(thing, tuple):
        return are_fields(thing) and all(has_word_signs(pair[0]) for pair in thing)
    return isinstance(thing, (int, str, list))


def parts_of(value):
    """The values that a row, a book or a shape holds, in their order; of others none."""
    if isinstance(value, list):
        return list(value)
    if isinstance(value, dict):
        return list(value.values())
    if isinstance(value, tuple):
        return [pair[1] for pair in value]
    return []


def is_of(value, kind, standing):
    """Whether the value is of the kind, or of what is due, at the standing."""
    # == holds True for 1, so what is no value must be told apart before letters are asked.
    return is_value(value) and value_is_of(value, kind, standing)


def value_is_of(value, kind, standing):
    """As is_of, of what is known to be a value; it looks no deeper than the kind goes."""
    return any(_is_of_choice(value, choice, standing) for choice in kind)


def _is_of_choice(value, choice, standing):
    word = choice[0]
    head = head_of(value)
    if word == "letter":
        return value in standing[choice[1]]
    if word == "cut":
        return head in choice[2] and value in standing[choice[1]]
    if word == "some":
        return head == choice[1]
    if word == "with":
        return head_answers(head, ("has", choice[1]))
    return head == choice_head(choice) and _are_parts_of_choice(value, choice, standing)


def _are_parts_of_choice(value, choice, standing):
    parts = parts_of(value)
    for part, kind in zip(parts, _kinds_of_parts(choice, len(parts))):
        if not value_is_of(part, kind, standing):
            return False
    return True


def _kinds_of_parts(choice, many):
    if choice[0] == "shape":
        return [pair[1] for pair in choice[1]]
    if choice[0] in ("row", "book"):
        return [choice[1]] * many
    return []
