"""Forms: what certificates and records have in common."""


def has_form(lengths, value):
    """True if the value is a tuple of one of the forms, by its first entry and its length."""
    if not isinstance(value, tuple) or len(value) == 0 or not isinstance(value[0], str):
        return False
    return value[0] in lengths and len(value) == lengths[value[0]]


def verdict(wrong):
    """What is said where this is the number of the first condition that does not hold, or None."""
    if wrong is None:
        return ("right",)
    return ("wrong", wrong)
