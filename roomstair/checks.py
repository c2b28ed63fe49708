"""What a value is, whatever value is asked about."""


def is_integer(value):
    """Whether it is an integer; True and False are none."""
    return isinstance(value, int) and not isinstance(value, bool)


def is_within(value, least, most):
    """Whether it is an integer from least to most, None being no bound."""
    if not is_integer(value):
        return False
    if least is not None and value < least:
        return False
    return most is None or value <= most


def is_list(value):
    """Whether it is a list or a tuple."""
    return isinstance(value, (list, tuple))


def are_unlike(value, least, most):
    """Whether it is a list, perhaps of none, of unlike integers from least to most."""
    if not is_list(value):
        return False
    if not all([is_within(item, least, most) for item in value]):
        return False
    return len(set(value)) == len(value)
