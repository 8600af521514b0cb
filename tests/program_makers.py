"""Short ways to write programs down, for the tests."""

from tests.kind_makers import NUMBER

ONE = ("num", 1)
WORD = ("text", "x")


def name(word):
    return ("name", word)


def function(body, params=(), result=NUMBER, letters=(), named="f"):
    return (named, letters, params, result, body)


def program(body, params=(), result=NUMBER, letters=()):
    """A program of one function, f."""
    return [function(body, params, result, letters)]


def nested(body, depth, within=1):
    """The body as the innermost of parts so many deep."""
    for _ in range(depth - within):
        body = ("size", body)
    return body
