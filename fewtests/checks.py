"""Checks: small questions about any values."""


def is_integer(value):
    """Tells whether value is an integer."""
    # A bool is an int in Python, but no integer here.
    return isinstance(value, int) and not isinstance(value, bool)


def is_index(value, many):
    """Tells whether value is an integer from 0 to many - 1."""
    return is_integer(value) and 0 <= value < many


def is_in(value, least, most):
    """Tells whether value is an integer from least to most."""
    return is_integer(value) and least <= value <= most


def is_tuple_of(value, many):
    """Tells whether value is a tuple of so many parts."""
    return isinstance(value, tuple) and len(value) == many


def ascends(values):
    """Tells whether the values ascend strictly."""
    return all([value < later for value, later in zip(values, values[1:])])


def first_true(answers):
    """Returns the index of the first answer that is True, or None."""
    return answers.index(True) if True in answers else None
