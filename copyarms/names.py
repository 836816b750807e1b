"""Names: letters a to z."""

LETTERS = "abcdefghijklmnopqrstuvwxyz"


def is_name(value, most):
    """Whether a value is a name of one letter up to so many."""
    if not isinstance(value, str) or not 1 <= len(value) <= most:
        return False
    return all([letter in LETTERS for letter in value])
