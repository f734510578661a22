"""Plain values as a program writes them."""

ESCAPED = {'"': "\\\"", "\\": "\\\\", "\n": "\\n"}


def quoted(characters):
    """Returns the string literal that means these characters."""
    written = "".join([ESCAPED.get(character, character) for character in characters])
    return '"' + written + '"'


def shown_value(value):
    """Returns a plain value as a program writes it."""
    kind = value[0]
    if kind == "none":
        return "none"
    if kind == "bool":
        return "true" if value[1] else "false"
    if kind == "int":
        return str(value[1])
    return quoted(value[1])
