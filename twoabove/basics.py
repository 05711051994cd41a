"""Numbers, as the whole package understands them."""


def is_integer(value):
    """Whether any value is an INTEGER: True and False are none."""
    return isinstance(value, int) and not isinstance(value, bool)


def is_count(value):
    """Whether any value is a COUNT."""
    return is_integer(value) and value >= 0
