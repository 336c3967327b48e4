"""The refusals: one class for each kind of thing that is handed in and is none."""


class WebError(ValueError):
    """Any refusal."""


class BadLines(WebError):
    """What is no number of lines."""


class BadRow(WebError):
    """What is no row of the lines."""


class BadPlace(WebError):
    """What is no place of a comparer."""


class BadOrder(WebError):
    """What is no list that has each line once."""


class BadText(WebError):
    """What is no web's text."""


class NothingPut(WebError):
    """Nothing is put that could be taken back."""


class BadWeb(WebError):
    """What is no web: place is that of the first comparer that is none, or None."""

    def __init__(self, place):
        WebError.__init__(self, f"no web, place {place}")
        self.place = place
