"""MODEs: whether what is read is as of this MOMENT, or as of the one ahead of it."""


def is_mode(thing):
    """Whether a thing is a MODE."""
    return isinstance(thing, str) and thing in ("with", "ahead")


def as_read(stair, mode):
    """What a STAIR is when the next one is read with it, or ahead of it."""
    if mode == "ahead":
        return stair - 1
    return stair
