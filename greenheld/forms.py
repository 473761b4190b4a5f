"""What values are made of, as all judges look at it: True and False are no integers, lists no tuples."""


def is_whole(value):
    """Whether it is an integer."""
    return isinstance(value, int) and not isinstance(value, bool)


def is_from_nought(value):
    """Whether it is an integer from 0 on."""
    return is_whole(value) and value >= 0


def is_between(value, least, most):
    """Whether it is an integer from least to most."""
    return is_whole(value) and least <= value <= most


def is_tuple_of(value, many):
    """Whether it is a tuple with so many members."""
    return isinstance(value, tuple) and len(value) == many


def ascends(some):
    """Whether each member is less than the next one."""
    return all([some[k - 1] < some[k] for k in range(1, len(some))])


def is_lot(value, many):
    """Whether it is an ascending tuple of unlike integers from 0 to many - 1."""
    if not isinstance(value, tuple):
        return False
    return all([is_between(member, 0, many - 1) for member in value]) and ascends(value)


def is_cars(value, many):
    """Whether it is a tuple of so many integers from 0 on."""
    return is_tuple_of(value, many) and all([is_from_nought(part) for part in value])
