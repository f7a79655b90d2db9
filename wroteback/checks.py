"""Checks of values that may be anything."""

from wroteback.errors import BadSize, BadStand, BadWritten

LONGEST = 60
GREATEST_WRITTEN = 3


def is_between(value, least, most):
    """Tell whether any value is an integer from least to most."""
    # Python counts True and False as integers, the document does not.
    return isinstance(value, int) and not isinstance(value, bool) and least <= value <= most


def is_tuple_of(value, least, most):
    """Tell whether any value is a tuple of so many things."""
    return isinstance(value, tuple) and least <= len(value) <= most


def first_outside(things, most):
    """Return the index of the first thing that is no integer from 0 to most, None if there is none."""
    for index, thing in enumerate(things):
        if not is_between(thing, 0, most):
            return index
    return None


def check_size(value, least, most):
    """Raise BadSize unless any value is an integer from least to most."""
    if not is_between(value, least, most):
        raise BadSize(f"no integer from {least} to {most}")


def check_stand(writer, stand):
    """Raise BadStand unless any value is a stand of the writer."""
    if not is_between(stand, 0, len(writer) - 1):
        raise BadStand("no stand of the writer")


def check_written(written):
    """Raise BadWritten unless any value is what is written."""
    if not is_tuple_of(written, 0, LONGEST):
        raise BadWritten(None)
    index = first_outside(written, GREATEST_WRITTEN)
    if index is not None:
        raise BadWritten(index)
