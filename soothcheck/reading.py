"""Reading: the programs and kinds that texts tell."""

from soothcheck.errors import BadText
from soothcheck.kinds import is_letter, is_word
from soothcheck.programs import FORMS, SIGNED, need_program

LONGEST_TEXT = 6000
DEEPEST_BRACKETS = 40
MOST_FIGURES = 30


class Reader:
    """A row that is read: how far, and how many brackets are entered there."""

    def __init__(self, row):
        self.row = row
        self.at = 0
        self.depth = 0

    def pass_blanks(self):
        """Read all blanks that are next."""
        while self.row[self.at:self.at + 1] == " ":
            self.at += 1

    def sign(self):
        """The next sign behind any blanks; the empty text at the end."""
        self.pass_blanks()
        return self.row[self.at:self.at + 1]

    def take(self, sign):
        """Read this sign."""
        if self.sign() != sign:
            raise BadText(f"there is no {sign} at {self.at}")
        self.at += 1

    def passes(self, sign):
        """Whether this sign is next; it is read then."""
        if self.sign() != sign:
            return False
        self.at += 1
        return True

    def enter(self, sign):
        """Read this sign, which brackets begin with."""
        self.take(sign)
        self.depth += 1
        if self.depth > DEEPEST_BRACKETS:
            raise BadText(f"brackets are more than {DEEPEST_BRACKETS} deep")

    def leave(self, sign):
        """Read this sign, which brackets end with."""
        self.take(sign)
        self.depth -= 1

    def take_any(self):
        """Read whatever sign is next, blanks too."""
        if self.at == len(self.row):
            raise BadText("a text does not end")
        self.at += 1
        return self.row[self.at - 1]

    def take_all(self, first, last):
        """Read all signs from the first to the last of these that are next."""
        start = self.at
        while self.at < len(self.row) and first <= self.row[self.at] <= last:
            self.at += 1
        return self.row[start:self.at]

    def need_blank(self):
        """Refuse where the next sign is no blank."""
        if self.row[self.at:self.at + 1] != " ":
            raise BadText(f"there is no blank at {self.at}")

    def need_end(self):
        """Refuse where more than blanks is left."""
        if self.sign() != "":
            raise BadText(f"there is too much at {self.at}")


def read(text):
    """The program that a text tells; refused where it tells none."""
    _need_short(text)
    rows = [row for row in text.split("\n") if row.strip(" ") != ""]
    program = [_read_function(Reader(row)) for row in rows]
    need_program(program)
    return program


def read_kind(text):
    """The kind that a text tells."""
    _need_short(text)
    reader = Reader(text)
    kind = _read_kind(reader)
    reader.need_end()
    return kind


def _need_short(text):
    if len(text) > LONGEST_TEXT:
        raise BadText(f"a text has more than {LONGEST_TEXT} signs")


def _read_function(reader):
    _read_this_word(reader, "def")
    reader.need_blank()
    name = _read_word(reader)
    letters = _read_in_angles(reader, _read_letter_under)
    params = _read_in_brackets(reader, "()", _read_field_and_kind, 0)
    reader.take(":")
    result = _read_kind(reader)
    reader.take("=")
    body = _read_part(reader)
    reader.need_end()
    return (name, letters, params, result, body)


def _read_in_brackets(reader, ends, read_one, least=1):
    """The things within brackets, with commas between; the least is how many there are, none or one."""
    reader.enter(ends[0])
    things = []
    if least == 1 or reader.sign() != ends[1]:
        things.append(read_one(reader))
    while reader.passes(","):
        things.append(read_one(reader))
    reader.leave(ends[1])
    return tuple(things)


def _read_in_angles(reader, read_one):
    """The things within angles; none where there are no angles."""
    return _read_in_brackets(reader, "<>", read_one) if reader.sign() == "<" else ()


def _read_word(reader):
    reader.pass_blanks()
    word = reader.take_all("a", "z")
    if not is_word(word):
        raise BadText(f"there is no word that ends at {reader.at}")
    return word


def _read_this_word(reader, word):
    if _read_word(reader) != word:
        raise BadText(f"there is no {word} that ends at {reader.at}")


def _read_letter(reader):
    reader.pass_blanks()
    letter = reader.take_all("A", "Z")
    if not is_letter(letter):
        raise BadText(f"there is no letter that ends at {reader.at}")
    return letter


def _read_letter_under(reader):
    letter = _read_letter(reader)
    reader.need_blank()
    _read_this_word(reader, "under")
    reader.need_blank()
    return (letter, _read_kind(reader))


def _read_field_and_kind(reader):
    """A field of a kind, or a param, with its kind."""
    word = _read_word(reader)
    reader.take(":")
    return (word, _read_kind(reader))


def _read_kind(reader):
    choices = [_read_choice(reader)]
    while reader.passes("|"):
        choices.append(_read_choice(reader))
    return tuple(choices)


def _read_choice(reader):
    sign = reader.sign()
    if sign == "{":
        return ("shape", _read_in_brackets(reader, "{}", _read_field_and_kind))
    if "A" <= sign <= "Z":
        return ("letter", _read_letter(reader))
    word = _read_word(reader)
    if word in ("number", "text"):
        return (word,)
    if word not in ("row", "book"):
        raise BadText(f"no choice has the word {word}")
    reader.enter("(")
    kind = _read_kind(reader)
    reader.leave(")")
    return (word, kind)


def _read_part(reader):
    sign = reader.sign()
    if sign == "[":
        return ("row", _read_in_brackets(reader, "[]", _read_part))
    if sign == "{":
        return ("shape", _read_in_brackets(reader, "{}", _read_field_and_part))
    if sign == "\"":
        return ("text", _read_text(reader))
    if sign == "-" or "0" <= sign <= "9":
        return ("num", _read_number(reader))
    word = _read_word(reader)
    if reader.sign() not in ("(", "<"):
        return ("name", word)
    if word in FORMS and word not in SIGNED:
        return _read_by_word(reader, word)
    return _read_call(reader, word)


def _read_field_and_part(reader):
    field = _read_word(reader)
    reader.take(":")
    return (field, _read_part(reader))


def _read_text(reader):
    reader.take("\"")
    signs = []
    sign = reader.take_any()
    while sign != "\"":
        if sign == "\\":
            sign = reader.take_any()
            if sign not in ("\"", "\\"):
                raise BadText(f"there is a backslash ahead of {sign}")
        signs.append(sign)
        sign = reader.take_any()
    return "".join(signs)


def _read_number(reader):
    below = reader.passes("-")
    figures = reader.take_all("0", "9")
    if not 1 <= len(figures) <= MOST_FIGURES:
        raise BadText(f"a number has not one to {MOST_FIGURES} figures")
    if figures[0] == "0" and (len(figures) > 1 or below):
        raise BadText("a number has a nought ahead, or nought has a sign")
    return -int(figures) if below else int(figures)


def _read_by_word(reader, word):
    """What follows the word of a part, in round brackets."""
    reader.enter("(")
    things = []
    for slot in FORMS[word]:
        if len(things) > 0:
            reader.take(",")
        read_one = SLOTS[slot]
        things.append(read_one(reader))
    reader.leave(")")
    return (word, *things)


def _read_call(reader, called):
    kinds = _read_in_angles(reader, _read_kind)
    return ("call", called, kinds, _read_in_brackets(reader, "()", _read_part, 0))


SLOTS = {
    "known": _read_word,
    "given": _read_word,
    "field": _read_word,
    "head": _read_word,
    "kind": _read_kind,
    "part": _read_part,
    "last": _read_part,
}
