"""Names that nothing has yet."""

LETTERS = "abcdefghijklmnopqrstuvwxyz"


def fresh_names(many, taken):
    """The list of the first so many names that are not taken."""
    names = []
    number = 0
    while len(names) < many:
        name = _spelled(number)
        if name not in taken:
            names.append(name)
        number = number + 1
    return names


def _spelled(number):
    """The name with a number: a to z, then aa, ab and so on."""
    text = ""
    left = number + 1
    while left > 0:
        text = LETTERS[(left - 1) % 26] + text
        left = (left - 1) // 26
    return text
