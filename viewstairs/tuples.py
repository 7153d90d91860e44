"""Tuples: which things are some."""


def is_tuple(thing, least, most):
    """Whether a thing is a tuple of at least and at most so many things."""
    return isinstance(thing, tuple) and least <= len(thing) <= most
