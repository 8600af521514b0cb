"""Short ways to write kinds down, for the tests."""

NUMBER = (("number",),)
TEXT = (("text",),)
A = (("letter", "A"),)
B = (("letter", "B"),)


def row(kind):
    return (("row", kind),)


def book(kind):
    return (("book", kind),)


def shape(*pairs):
    return (("shape", pairs),)


def cut(letter, *heads):
    return (("cut", letter, heads),)
