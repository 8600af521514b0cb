"""Running: what comes of a function of a program on some values, within some breath."""

from soothcheck.dues import NUMBER, SIZED, SOME_BOOK, SOME_ROW, TEXT, with_field
from soothcheck.errors import BadCall, NoName
from soothcheck.kinds import head_answers
from soothcheck.programs import need_program
from soothcheck.values import head_of, is_value, value_is_of


class Fault(Exception):
    """A part's value is not of what is due of it."""

    def __init__(self, due, value):
        self.due = due
        self.value = value


class Tired(Exception):
    """Something would take more breath than is left."""


class Going:
    """A run that goes on: the functions of its program, and the breath that is left."""

    def __init__(self, functions, breath):
        self.functions = functions
        self.left = breath

    def take(self, many):
        """Take so much of the breath."""
        if many > self.left:
            raise Tired("there is too little breath left")
        self.left -= many


def run(program, name, told, breath):
    """What comes of the function of that name, its params being the values that are told."""
    functions = need_program(program)
    if name not in functions:
        raise NoName("the program has no function of that name")
    _, _, params, _, body = functions[name]
    _need_told(told, params)
    known = {param: value for (param, _), value in zip(params, told)}
    going = Going(functions, breath)
    try:
        value = _work(body, known, going)
    except Fault as e:
        return ("fault", e.due, e.value)
    except Tired:
        return ("tired",)
    return ("value", value, going.left)


def _need_told(told, params):
    if not isinstance(told, list) or len(told) != len(params):
        raise BadCall("what is told is not a list of one value for each param")
    if not all(is_value(value) for value in told):
        raise BadCall("something that is told is no value")


def _work(part, known, going):
    """The value of a part; known is a dict of the values of the names that are known there."""
    going.take(1)
    work = WORKS[part[0]]
    return work(part, known, going)


def _of_due(value, due):
    """The value, where it is of what is due."""
    if not value_is_of(value, due, {}):
        raise Fault(due, value)
    return value


def _made(value, going):
    """What has been made, behind the breath that it takes besides its part's."""
    going.take(len(value))
    return value


def _work_plain(part, known, going):
    return part[1]


def _work_name(part, known, going):
    return known[part[1]]


def _work_row(part, known, going):
    row = []
    for within in part[1]:
        row.append(_work(within, known, going))
    return row


def _work_norow(part, known, going):
    return []


def _work_nobook(part, known, going):
    return {}


def _work_shape(part, known, going):
    pairs = []
    for field, within in part[1]:
        pairs.append((field, _work(within, known, going)))
    return tuple(pairs)


def _work_get(part, known, going):
    _, within, field = part
    shape = _of_due(_work(within, known, going), with_field(field))
    return dict(shape)[field]


def _work_plus(part, known, going):
    one = _of_due(_work(part[1], known, going), NUMBER)
    other = _of_due(_work(part[2], known, going), NUMBER)
    return one + other


def _work_minus(part, known, going):
    one = _of_due(_work(part[1], known, going), NUMBER)
    other = _of_due(_work(part[2], known, going), NUMBER)
    return one - other


def _work_join(part, known, going):
    one = _of_due(_work(part[1], known, going), TEXT)
    other = _of_due(_work(part[2], known, going), TEXT)
    return _made(one + other, going)


def _work_size(part, known, going):
    return len(_of_due(_work(part[1], known, going), SIZED))


def _work_push(part, known, going):
    row = _of_due(_work(part[1], known, going), SOME_ROW)
    last = _work(part[2], known, going)
    return _made(row + [last], going)


def _work_at(part, known, going):
    row = _of_due(_work(part[1], known, going), SOME_ROW)
    place = _of_due(_work(part[2], known, going), NUMBER)
    instead = _work(part[3], known, going)
    # Python would count a place below nought from the row's end.
    return row[place] if 0 <= place < len(row) else instead


def _work_put(part, known, going):
    book = _of_due(_work(part[1], known, going), SOME_BOOK)
    key = _of_due(_work(part[2], known, going), TEXT)
    value = _work(part[3], known, going)
    return _made({**book, key: value}, going)


def _work_look(part, known, going):
    book = _of_due(_work(part[1], known, going), SOME_BOOK)
    key = _of_due(_work(part[2], known, going), TEXT)
    instead = _work(part[3], known, going)
    return book.get(key, instead)


def _work_let(part, known, going):
    _, name, worth, last = part
    value = _work(worth, known, going)
    return _work(last, {**known, name: value}, going)


def _work_each(part, known, going):
    _, name, holder, last = part
    row = _of_due(_work(holder, known, going), SOME_ROW)
    within = dict(known)
    values = []
    for value in row:
        within[name] = value
        values.append(_work(last, within, going))
    return _made(values, going)


def _work_fold(part, known, going):
    _, name, holder, sum_name, _, first, last = part
    row = _of_due(_work(holder, known, going), SOME_ROW)
    value_so_far = _work(first, known, going)
    within = dict(known)
    for value in row:
        within[name] = value
        within[sum_name] = value_so_far
        value_so_far = _work(last, within, going)
    return value_so_far


def _work_if(part, known, going):
    _, lesser, greater, yes, no = part
    one = _of_due(_work(lesser, known, going), NUMBER)
    other = _of_due(_work(greater, known, going), NUMBER)
    return _work(yes if one < other else no, known, going)


def _work_asked(part, known, going):
    word, name, asked, yes, no = part
    answer = head_answers(head_of(known[name]), (word, asked))
    return _work(yes if answer else no, known, going)


def _work_call(part, known, going):
    _, called, _, handed = part
    _, _, params, _, body = going.functions[called]
    own = {}
    for (param, _), within in zip(params, handed):
        own[param] = _work(within, known, going)
    return _work(body, own, going)


WORKS = {
    "num": _work_plain,
    "text": _work_plain,
    "name": _work_name,
    "row": _work_row,
    "norow": _work_norow,
    "nobook": _work_nobook,
    "shape": _work_shape,
    "get": _work_get,
    "plus": _work_plus,
    "minus": _work_minus,
    "join": _work_join,
    "size": _work_size,
    "push": _work_push,
    "at": _work_at,
    "put": _work_put,
    "look": _work_look,
    "let": _work_let,
    "each": _work_each,
    "fold": _work_fold,
    "if": _work_if,
    "is": _work_asked,
    "has": _work_asked,
    "call": _work_call,
}
