"""Tuples: which things are some."""


def is_tuple(thing, least, most):
    """Whether a thing is a tuple of at least and at most so many things."""
    return isinstance(thing, tuple) and least <= len(thing) <= most


def is_tagged(thing, word, many):
    """Whether a thing is a tuple of so many things, the first one being this word."""
    return is_tuple(thing, many, many) and isinstance(thing[0], str) and thing[0] == word
