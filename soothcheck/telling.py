"""Telling: programs as texts."""

from soothcheck.kinds import shown_kind
from soothcheck.programs import FORMS, SIGNED, need_program


def shown(program):
    """The text of a program: a row for each function, with line ends between."""
    functions = need_program(program)
    return "\n".join([_shown_function(functions[name]) for name in functions])


def _shown_function(function):
    name, letters, params, result, body = function
    angles = _in_angles([f"{letter} under {shown_kind(bound)}" for letter, bound in letters])
    own = ", ".join([f"{param}: {shown_kind(kind)}" for param, kind in params])
    return f"def {name}{angles}({own}): {shown_kind(result)} = {_shown_part(body)}"


def _in_angles(texts):
    """The texts in angles; nothing where there is none."""
    return "<" + ", ".join(texts) + ">" if len(texts) > 0 else ""


def _shown_part(part):
    word = part[0]
    if word in SIGNED:
        show = SIGNS[word]
        return show(part)
    things = [_shown_thing(slot, thing) for slot, thing in zip(FORMS[word], part[1:])]
    return word + "(" + ", ".join(things) + ")"


def _shown_thing(slot, thing):
    """What follows a part's word: a part, a kind or a word."""
    if slot in ("part", "last"):
        return _shown_part(thing)
    if slot == "kind":
        return shown_kind(thing)
    return thing


def _shown_parts(parts):
    return ", ".join([_shown_part(part) for part in parts])


def _shown_number(part):
    return str(part[1])


def _shown_text(part):
    # Were the quotes first, the signs ahead of them would get more ahead of themselves.
    marked = part[1].replace("\\", "\\\\").replace("\"", "\\\"")
    return "\"" + marked + "\""


def _shown_name(part):
    return part[1]


def _shown_row(part):
    return "[" + _shown_parts(part[1]) + "]"


def _shown_shape(part):
    fields = [f"{field}: {_shown_part(within)}" for field, within in part[1]]
    return "{" + ", ".join(fields) + "}"


def _shown_call(part):
    _, called, kinds, handed = part
    angles = _in_angles([shown_kind(kind) for kind in kinds])
    return f"{called}{angles}({_shown_parts(handed)})"


SIGNS = {
    "num": _shown_number,
    "text": _shown_text,
    "name": _shown_name,
    "row": _shown_row,
    "shape": _shown_shape,
    "call": _shown_call,
}
