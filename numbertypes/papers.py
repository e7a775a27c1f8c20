"""What papers keep of the values that they are given, which may be any values."""


def copied(value):
    """The value, with new lists in the place of all lists within it."""
    if isinstance(value, list):
        return [copied(part) for part in value]
    if isinstance(value, tuple):
        return tuple([copied(part) for part in value])
    return value


def as_tuple(value):
    """The copied value, as a tuple if it is a list."""
    return tuple(copied(value)) if isinstance(value, list) else copied(value)


def is_list_of(value, size):
    """Whether any value is a list or tuple with so many items."""
    return isinstance(value, (list, tuple)) and len(value) == size
