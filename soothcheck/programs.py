"""Programs: what is one, and how it is refused what is none."""

from soothcheck.errors import BadProgram, NoName, TwiceTold
from soothcheck.kinds import are_fields, is_letter, is_word, need_kind

MOST_FUNCTIONS = 12
DEEPEST_BODY = 12
# The one sign between the blank and ~ that texts do not have.
BARRED_SIGN = 37

# What follows each word in its parts. The names that are given in a part are known in its "last" one.
FORMS = {
    "num": ("whole",),
    "text": ("text",),
    "name": ("known",),
    "row": ("parts",),
    "norow": ("kind",),
    "nobook": ("kind",),
    "shape": ("fields",),
    "get": ("part", "field"),
    "plus": ("part", "part"),
    "minus": ("part", "part"),
    "join": ("part", "part"),
    "size": ("part",),
    "push": ("part", "part"),
    "at": ("part", "part", "part"),
    "put": ("part", "part", "part"),
    "look": ("part", "part", "part"),
    "let": ("given", "part", "last"),
    "each": ("given", "part", "last"),
    "fold": ("given", "part", "given", "kind", "part", "last"),
    "if": ("part", "part", "part", "part"),
    "is": ("known", "head", "part", "part"),
    "has": ("known", "field", "part", "part"),
    "call": ("function", "kinds", "handed"),
}
# Parts of these words are told and read in signs of their own, all others by their words.
SIGNED = ("num", "text", "name", "row", "shape", "call")


class Place:
    """Where a part stands: the letters, functions and names that are known, and how deep it may be."""

    def __init__(self, letters, functions, names, room):
        self.letters = letters
        self.functions = functions
        self.names = names
        self.room = room


def need_program(program):
    """The program's functions by their names, in order; refused where it is no program."""
    if not isinstance(program, list) or len(program) > MOST_FUNCTIONS:
        raise BadProgram(f"a program is not a list of at most {MOST_FUNCTIONS} functions")
    functions = {}
    for function in program:
        _need_function(function, functions)
        functions[function[0]] = function
    return functions


def _need_function(function, earlier):
    if not isinstance(function, tuple) or len(function) != 5:
        raise BadProgram("a function is not a tuple of name, letters, params, result and body")
    name, letters, params, result, body = function
    if not is_word(name) or name in FORMS:
        raise BadProgram("a function's name is not a word, or it is a word of parts")
    if name in earlier:
        raise TwiceTold(f"the function {name} is told twice")
    _need_pairs(letters, is_letter)
    for _, bound in letters:
        need_kind(bound, ())
    own = tuple([letter for letter, _ in letters])
    _need_pairs(params, is_word)
    for _, kind in params:
        need_kind(kind, own)
    need_kind(result, own)
    names = tuple([param for param, _ in params])
    _need_part(body, Place(own, earlier, names, DEEPEST_BODY))


def _need_pairs(pairs, may_lead):
    """Refuse what is no tuple of pairs that are led by what may lead them, each of these once."""
    if not isinstance(pairs, tuple):
        raise BadProgram("a function's letters or params are not a tuple")
    for pair in pairs:
        if not isinstance(pair, tuple) or len(pair) != 2 or not may_lead(pair[0]):
            raise BadProgram("a letter or param is not a pair of a name and a kind")
    if len(set([pair[0] for pair in pairs])) < len(pairs):
        raise TwiceTold("a letter or param is told twice")


def _need_part(part, place):
    # Looking at the room first ends the way down however deep the part is.
    if place.room < 1:
        raise BadProgram(f"a body is more than {DEEPEST_BODY} parts deep")
    slots = list(zip(_form_of(part), part[1:]))
    given = tuple([told for slot, told in slots if slot == "given"])
    last = Place(place.letters, place.functions, place.names + given, place.room)
    for slot, told in slots:
        need = NEEDS[slot]
        need(told, last if slot == "last" else place)
    if len(set(given)) < len(given):
        raise TwiceTold("the two names of a fold are alike")
    if part[0] == "call":
        _need_all_handed(part, place.functions[part[1]])


def _form_of(part):
    if not isinstance(part, tuple) or len(part) == 0:
        raise BadProgram("a part is not a tuple that begins with its word")
    if not isinstance(part[0], str) or part[0] not in FORMS:
        raise BadProgram("a part begins with what is no word of parts")
    form = FORMS[part[0]]
    if len(part) != len(form) + 1:
        raise BadProgram(f"a part {part[0]} has not {len(form)} things behind its word")
    return form


def _need_all_handed(part, function):
    if len(part[2]) != len(function[1]) or len(part[3]) != len(function[2]):
        raise BadProgram("a call has not a kind for each letter and a part for each param")


def _need_within(told, place):
    _need_part(told, Place(place.letters, place.functions, place.names, place.room - 1))


def _need_whole(told, place):
    if isinstance(told, bool) or not isinstance(told, int) or abs(told) >= 10 ** 30:
        raise BadProgram("a number is not whole, or it is too large")


def _need_text(told, place):
    if not isinstance(told, str) or not all(" " <= sign <= "~" for sign in told):
        raise BadProgram("a text has other signs than those from the blank to ~")
    if any(ord(sign) == BARRED_SIGN for sign in told):
        raise BadProgram("a text has the one sign between the blank and ~ that it may not have")


def _need_known(told, place):
    _need_word(told, place)
    if told not in place.names:
        raise NoName(f"the name {told} is not known where it stands")


def _need_word(told, place):
    if not is_word(told):
        raise BadProgram("a name or field is not a word")


def _need_head(told, place):
    if told not in ("number", "text", "row", "book", "shape"):
        raise BadProgram("is asks for a word that it does not have")


def _need_kind_here(told, place):
    need_kind(told, place.letters)


def _need_parts(told, place):
    _need_handed(told, place)
    if len(told) == 0:
        raise BadProgram("a row has no part")


def _need_handed(told, place):
    if not isinstance(told, tuple):
        raise BadProgram("parts do not stand in a tuple")
    for part in told:
        _need_within(part, place)


def _need_fields(told, place):
    if not are_fields(told):
        raise BadProgram("a shape's fields are not one or more pairs, ascending, each field once")
    for field, part in told:
        _need_word(field, place)
        _need_within(part, place)


def _need_told_earlier(told, place):
    _need_word(told, place)
    if told not in place.functions:
        raise NoName(f"no function {told} is told earlier")


def _need_kinds(told, place):
    if not isinstance(told, tuple):
        raise BadProgram("a call's kinds do not stand in a tuple")
    for kind in told:
        need_kind(kind, place.letters)


NEEDS = {
    "whole": _need_whole,
    "text": _need_text,
    "known": _need_known,
    "given": _need_word,
    "field": _need_word,
    "head": _need_head,
    "kind": _need_kind_here,
    "part": _need_within,
    "last": _need_within,
    "parts": _need_parts,
    "fields": _need_fields,
    "function": _need_told_earlier,
    "kinds": _need_kinds,
    "handed": _need_handed,
}
