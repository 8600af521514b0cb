"""What is due of values and kinds where parts ask for something."""

NUMBER = (("number",),)
TEXT = (("text",),)
SOME_ROW = (("some", "row"),)
SOME_BOOK = (("some", "book"),)
SIZED = (("some", "book"), ("some", "row"), ("text",))


def with_field(field):
    """All shapes with the field."""
    return (("with", field),)
