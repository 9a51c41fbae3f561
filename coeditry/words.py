"""The WORDS of a VIEW and the SPOTS where they stand."""

from coeditry.kinds import is_small_letter


def index(view):
    """The INDEX of the VIEW: a rising tuple of pairs (word, SPOTS)."""
    table = {}
    for word, spot in _standing_words(view):
        table.setdefault(word, []).append(spot)
    return tuple([(word, tuple(sorted(table[word]))) for word in sorted(table)])


def spots_of(view, word):
    """The SPOTS of a text in the VIEW, rising, () of none."""
    return tuple(sorted([spot for one, spot in _standing_words(view) if one == word]))


def _standing_words(view):
    """A list of each word that stands in the VIEW, with its SPOT."""
    found = []
    for d, sight in enumerate(view):
        for word, place, at in _words_in(sight[0], sight[2]):
            found.append((word, (d, place, at)))
    return found


def _words_in(sort, body):
    """The words in a body of its sort, each with its place and at."""
    if sort == "text":
        return _words_in_text(body)
    if sort == "rows":
        return _words_in_rows(body)
    return [(label, place, ("", 0)) for place, (_, label) in enumerate(body)]


def _words_in_text(body):
    text = "".join([sign for sign, _ in body])
    return [(word, place, ("", 0)) for place, word in _runs(text)]


def _words_in_rows(body):
    found = []
    for place, fields in enumerate(body):
        for field, value, _ in fields:
            if isinstance(value, str):
                found.extend([(word, place, (field, at)) for at, word in _runs(value)])
    return found


def _runs(text):
    """The rows of letters in a text, as long as may be, each as (number of its first letter, row)."""
    found = []
    start = 0
    for at in range(len(text) + 1):
        if at == len(text) or not is_small_letter(text[at]):
            if start < at:
                found.append((start, text[start:at]))
            start = at + 1
    return found
