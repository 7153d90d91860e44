"""Texts of STAIRs and of WEBs: how they are written, and how they are read back."""

from viewstairs.errors import BadText
from viewstairs.stairs import Stair, need_stair
from viewstairs.webs import is_name, need_web

_MOST_DIGITS = 1000
_MOST_WEB_DIGITS = 7
_AHEAD = "<"

# The words of a view ahead of its SOURCES.
_VIEW_WORDS = 5


def stair_text(stair):
    """The text of a STAIR."""
    need_stair(stair)
    return str(stair)


def web_text(web):
    """The text of a WEB."""
    tables, views = need_web(web)
    return "\n".join([*[_table_line(table) for table in tables], *[_view_line(view) for view in views]])


def read_stair(text):
    """The STAIR that a text tells."""
    lines = _lines(text)
    _need_words(1, lines[0], (_is_word_period, _is_integer_word))
    for number, words in enumerate(lines[1:], start=2):
        _need_words(number, words, (_is_integer_word, _is_integer_word))
    if len(lines) == 1:
        raise BadText(2, 1)
    steps = [(int(at), int(value)) for at, value in lines[1:]]
    return Stair(int(lines[0][1]), tuple(steps))


def read_web(text):
    """The WEB that a text tells."""
    tables, views = [], []
    for number, words in enumerate(_lines(text), start=1):
        if len(views) > 0 or len(tables) > 0 and _is_word_view(words[0]):
            _need_words(number, words, _view_form(words))
            views.append(_view(words))
        else:
            _need_words(number, words, _table_form(words))
            tables.append(_table(words))
    return need_web((tuple(tables), tuple(views)))


def _table_line(table):
    """The line of a table."""
    name, load = table
    if load is None:
        return f"table {name}"
    period, offset = load
    return f"table {name} {period} {offset}"


def _view_line(view):
    """The line of a view."""
    name, beat, sources = view
    period, offset, takes = beat
    words = " ".join([_AHEAD + source if mode == "ahead" else source for source, mode in sources])
    return f"view {name} {period} {offset} {takes} {words}"


def _lines(text):
    """The lines of a text, each as the list of its words."""
    if not isinstance(text, str):
        raise BadText(0, 0)
    return [line.split(" ") for line in text.split("\n")]


def _need_words(number, words, form):
    """Refuse a line whose words are not as the form asks of each of them."""
    if "" in words:
        raise BadText(number, 0)
    for place, word in enumerate(words):
        if place >= len(form):
            raise BadText(number, place + 1)
        fits = form[place]
        if not fits(word):
            raise BadText(number, place + 1)
    if len(words) < len(form):
        raise BadText(number, len(words) + 1)


def _table_form(words):
    """What is asked of the words of a table: it may have a LOAD."""
    if len(words) > 2:
        return _is_word_table, is_name, _is_web_number, _is_web_number
    return _is_word_table, is_name


def _view_form(words):
    """What is asked of the words of a view: it has one SOURCE or more."""
    sources = [_is_source_word] * max(1, len(words) - _VIEW_WORDS)
    return (_is_word_view, is_name, _is_web_number, _is_web_number, _is_web_number, *sources)


def _table(words):
    """The table that the words of its line tell."""
    if len(words) == 2:
        return words[1], None
    return words[1], (int(words[2]), int(words[3]))


def _view(words):
    """The view that the words of its line tell."""
    beat = int(words[2]), int(words[3]), int(words[4])
    return words[1], beat, tuple([_source(word) for word in words[_VIEW_WORDS:]])


def _source(word):
    """The SOURCE that a word tells."""
    if word.startswith(_AHEAD):
        return word.removeprefix(_AHEAD), "ahead"
    return word, "with"


def _is_word_period(word):
    """Whether a word begins the first line of a STAIR."""
    return word == "period"


def _is_word_table(word):
    """Whether a word begins the line of a table."""
    return word == "table"


def _is_word_view(word):
    """Whether a word begins the line of a view."""
    return word == "view"


def _is_source_word(word):
    """Whether a word is a NAME, or one that is read ahead."""
    return is_name(word.removeprefix(_AHEAD))


def _is_web_number(word):
    """Whether a word is an integer as in the text of a WEB."""
    return _is_number(word, _MOST_WEB_DIGITS)


def _is_integer_word(word):
    """Whether a word is an integer as in the text of a STAIR."""
    if word.startswith("-"):
        return word != "-0" and _is_number(word.removeprefix("-"), _MOST_DIGITS)
    return _is_number(word, _MOST_DIGITS)


def _is_number(word, most):
    """Whether a word is an integer in decimal from 0 on, with so many digits at most and without leading zeros."""
    if not 1 <= len(word) <= most or not all(["0" <= letter <= "9" for letter in word]):
        return False
    return word == "0" or word[0] != "0"
