"""A web as a text, and a web out of its text."""

from sortweb.errors import BadLines, BadText, BadWeb
from sortweb.webs import MOST_LINES, need_web


def web_text(lines, comparers):
    """The text of a web; BadLines and BadWeb of what is none."""
    need_web(lines, comparers)
    words = [f" {a}-{b}" for a, b in comparers]
    return f"{lines}:" + "".join(words)


def web_of(text):
    """The web of a text, a tuple (lines, comparers); BadText of what is no web's text."""
    if type(text) is not str:
        raise BadText("what is read is no text")
    head, colon, tail = text.partition(":")
    # Each comparer has a blank ahead, so what stands ahead of the first blank is empty.
    first, *words = tail.split(" ")
    if colon != ":" or first != "":
        raise BadText("lines, a colon and a blank ahead of each comparer make a web's text")
    lines = _number(head)
    comparers = [_pair(word) for word in words]
    try:
        need_web(lines, comparers)
    except (BadLines, BadWeb):
        raise BadText("the text tells no web") from None
    return lines, comparers


def _pair(word):
    """The numbers ahead of the sign and behind it; None for what is no number."""
    first, _, second = word.partition("-")
    return _number(first), _number(second)


def _number(word):
    """The number that the word is the figures of, None where it is none from 0 to 10."""
    # int would read signs, blanks, a 0 ahead and figures of other scripts, too.
    for number in range(MOST_LINES + 1):
        if word == str(number):
            return number
    return None
