"""The errors of the package. Each may be made of any things, so no message shows what it was made of."""


class BadStair(ValueError):
    """What is told is no STAIR; place says where."""

    def __init__(self, place):
        ValueError.__init__(self, "this tells no STAIR")
        self.place = place


class BadWeb(ValueError):
    """What is passed is no WEB; place says where."""

    def __init__(self, place):
        ValueError.__init__(self, "this is no WEB")
        self.place = place


class BadReads(ValueError):
    """What is passed is no READS of the WEB; place says where."""

    def __init__(self, place):
        ValueError.__init__(self, "these are no READS of the WEB")
        self.place = place


class BadPaper(ValueError):
    """A certificate does not hold; part says in what."""

    def __init__(self, part):
        ValueError.__init__(self, "this certificate does not hold")
        self.part = part


class BadText(ValueError):
    """A text cannot be read; line and word, counted from 1, say where."""

    def __init__(self, line, word):
        ValueError.__init__(self, "this text cannot be read")
        self.line = line
        self.word = word


class OutOfPlace(ValueError):
    """A thing of a wrong kind, or out of its bounds; the text says what was asked for."""

    def __init__(self, text):
        ValueError.__init__(self, text)


class TooGreat(OverflowError):
    """An answer would be made of more than the most that is allowed."""

    def __init__(self, most):
        OverflowError.__init__(self, "this is made of more than the most that is allowed")
        self.most = most


class Missing(LookupError):
    """Nothing has this name."""

    def __init__(self, name):
        LookupError.__init__(self, "nothing has this name")
        self.name = name
