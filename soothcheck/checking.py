"""Checking: the kinds that are found of a program's parts, and which functions do not pass."""

from soothcheck.dues import NUMBER, SIZED, SOME_BOOK, SOME_ROW, TEXT, with_field
from soothcheck.errors import NoName, Refused
from soothcheck.fitting import ground
from soothcheck.kinds import joined, narrowed, opened, put_in
from soothcheck.programs import need_program


class Looking:
    """The function that is looked at: its name, its bounds, and all functions of the program."""

    def __init__(self, functions, name):
        self.functions = functions
        self.name = name
        self.bounds = {letter: bound for letter, bound in functions[name][1]}


def check(program):
    """For each function that does not pass, in order, a tuple (name, found, due, value, standing)."""
    functions = need_program(program)
    refusals = []
    for name in functions:
        try:
            _found_of_function(functions, name)
        except Refused as e:
            refusals.append((e.name, e.found, e.due, e.value, e.standing))
    return refusals


def must_pass(program):
    """Nothing, or Refused for the first function that does not pass."""
    functions = need_program(program)
    for name in functions:
        _found_of_function(functions, name)


def found_kind(program, name):
    """The kind found of the body of the function of that name; Refused where it does not pass."""
    functions = need_program(program)
    if name not in functions:
        raise NoName("the program has no function of that name")
    return _found_of_function(functions, name)


def _found_of_function(functions, name):
    params, result, body = functions[name][2:]
    names = {param: kind for param, kind in params}
    return _found_fitting(body, result, names, Looking(functions, name))


def _found_fitting(part, due, names, looking):
    """The kind found of a part; Refused where it does not fit what is due there."""
    found = _found(part, names, looking)
    _must_fit(found, due, looking)
    return found


def _must_fit(found, due, looking):
    shown = ground(found, due, looking.bounds)
    if shown is not None:
        value, standing = shown
        raise Refused(looking.name, found, due, value, standing)


def _found(part, names, looking):
    """The kind found of a part; names is a dict of the kinds of the names that are known there."""
    look = LOOKS[part[0]]
    return look(part, names, looking)


def _look_number(part, names, looking):
    return NUMBER


def _look_text(part, names, looking):
    return TEXT


def _look_name(part, names, looking):
    return joined([names[part[1]]])


def _look_row(part, names, looking):
    return (("row", joined([_found(within, names, looking) for within in part[1]])),)


def _look_norow(part, names, looking):
    return (("row", part[1]),)


def _look_nobook(part, names, looking):
    return (("book", part[1]),)


def _look_shape(part, names, looking):
    fields = [(field, _found(within, names, looking)) for field, within in part[1]]
    return (("shape", tuple(fields)),)


def _look_get(part, names, looking):
    kind = _found_fitting(part[1], with_field(part[2]), names, looking)
    kinds = []
    for choice in opened(kind, looking.bounds):
        kinds.extend([within for field, within in choice[1] if field == part[2]])
    return joined(kinds)


def _look_sum(part, names, looking):
    _found_fitting(part[1], NUMBER, names, looking)
    _found_fitting(part[2], NUMBER, names, looking)
    return NUMBER


def _look_join(part, names, looking):
    _found_fitting(part[1], TEXT, names, looking)
    _found_fitting(part[2], TEXT, names, looking)
    return TEXT


def _look_size(part, names, looking):
    _found_fitting(part[1], SIZED, names, looking)
    return NUMBER


def _kinds_within(kind, word, looking):
    """The kinds within all rows, or all books, of a kind."""
    return [choice[1] for choice in opened(kind, looking.bounds) if choice[0] == word]


def _with_more(word, kinds, more):
    """Rows or books of each of the kinds, each with what is new in it."""
    return joined([((word, joined([kind, more])),) for kind in kinds])


def _look_push(part, names, looking):
    kind = _found_fitting(part[1], SOME_ROW, names, looking)
    more = _found(part[2], names, looking)
    return _with_more("row", _kinds_within(kind, "row", looking), more)


def _look_put(part, names, looking):
    kind = _found_fitting(part[1], SOME_BOOK, names, looking)
    _found_fitting(part[2], TEXT, names, looking)
    more = _found(part[3], names, looking)
    return _with_more("book", _kinds_within(kind, "book", looking), more)


def _look_at(part, names, looking):
    kind = _found_fitting(part[1], SOME_ROW, names, looking)
    _found_fitting(part[2], NUMBER, names, looking)
    instead = _found(part[3], names, looking)
    return joined(_kinds_within(kind, "row", looking) + [instead])


def _look_look(part, names, looking):
    kind = _found_fitting(part[1], SOME_BOOK, names, looking)
    _found_fitting(part[2], TEXT, names, looking)
    instead = _found(part[3], names, looking)
    return joined(_kinds_within(kind, "book", looking) + [instead])


def _look_let(part, names, looking):
    _, name, worth, last = part
    kind = _found(worth, names, looking)
    return _found(last, {**names, name: kind}, looking)


def _kind_in_row(part, names, looking):
    """The kind of what a part's rows hold."""
    kind = _found_fitting(part, SOME_ROW, names, looking)
    return joined(_kinds_within(kind, "row", looking))


def _look_each(part, names, looking):
    _, name, row, last = part
    kind = _kind_in_row(row, names, looking)
    return (("row", _found(last, {**names, name: kind}, looking)),)


def _look_fold(part, names, looking):
    _, name, row, sum_name, kind, first, last = part
    in_row = _kind_in_row(row, names, looking)
    _found_fitting(first, kind, names, looking)
    _found_fitting(last, kind, {**names, name: in_row, sum_name: kind}, looking)
    return joined([kind])


def _look_if(part, names, looking):
    _found_fitting(part[1], NUMBER, names, looking)
    _found_fitting(part[2], NUMBER, names, looking)
    return joined([_found(part[3], names, looking), _found(part[4], names, looking)])


def _look_asked(part, names, looking):
    word, name, asked, *ways = part
    sides = narrowed(names[name], looking.bounds, (word, asked))
    kinds = []
    for side, way in zip(sides, ways):
        # A way that nothing is left for is never gone.
        if side != ():
            kinds.append(_found(way, {**names, name: side}, looking))
    return joined(kinds)


def _look_call(part, names, looking):
    _, called, kinds, handed = part
    _, letters, params, result, _ = looking.functions[called]
    for (_, bound), kind in zip(letters, kinds):
        _must_fit(kind, bound, looking)
    given = {letter: kind for (letter, _), kind in zip(letters, kinds)}
    for (_, kind), within in zip(params, handed):
        _found_fitting(within, put_in(kind, given), names, looking)
    return put_in(result, given)


LOOKS = {
    "num": _look_number,
    "text": _look_text,
    "name": _look_name,
    "row": _look_row,
    "norow": _look_norow,
    "nobook": _look_nobook,
    "shape": _look_shape,
    "get": _look_get,
    "plus": _look_sum,
    "minus": _look_sum,
    "join": _look_join,
    "size": _look_size,
    "push": _look_push,
    "at": _look_at,
    "put": _look_put,
    "look": _look_look,
    "let": _look_let,
    "each": _look_each,
    "fold": _look_fold,
    "if": _look_if,
    "is": _look_asked,
    "has": _look_asked,
    "call": _look_call,
}
