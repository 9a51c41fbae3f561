"""What is written as words: WHATS, VERSIONS, DEEDS, BOOKS."""

from coeditry.deeds import count_of, key_of, knew_of, what_of
from coeditry.forms import FORMS, INNERS
from coeditry.kinds import is_key, is_name


def shown_what(what):
    """The text of the WHAT."""
    word = what[0]
    if word == "suggest":
        inner = what[2]
        words = [word, shown_key(what[1]), inner[0]] + _shown_things(INNERS[inner[0]], inner[1:])
    else:
        words = [word] + _shown_things(FORMS[word], what[1:])
    return " ".join(words)


def shown_version(version):
    """The text of the VERSION."""
    return _shown_shares(version, " ")


def shown_deed(deed):
    """The text of the DEED."""
    knew = _shown_shares(knew_of(deed), ",")
    return " ".join([shown_key(key_of(deed)), str(count_of(deed)), knew, shown_what(what_of(deed))])


def shown_book(book):
    """The text of the BOOK: a line for each DEED."""
    return "\n".join([shown_deed(deed) for deed in book])


def shown_key(key):
    """The one word of the KEY."""
    return f"{key[0]}.{key[1]}"


def _shown_things(kinds, things):
    return [_shown_thing(kind, thing) for kind, thing in zip(kinds, things)]


def _shown_thing(kind, thing):
    """The one word of a thing of its kind."""
    if kind == "signs" or kind == "said":
        return "'" + thing
    if kind == "value":
        return _shown_value(thing)
    if kind == "truth":
        return "+" if thing else "/"
    if isinstance(thing, str):
        return thing
    return _shown_named(thing)


def _shown_value(value):
    if isinstance(value, str):
        return "'" + value
    return str(value)


def _shown_named(thing):
    """The word of None, a KEY, a NAME, or NAMES."""
    if thing is None:
        return "-"
    if is_key(thing):
        return shown_key(thing)
    if is_name(thing):
        return _shown_name(thing)
    return ",".join([_shown_name(name) for name in thing])


def _shown_name(name):
    return f"{shown_key(name[0])}.{name[1]}"


def _shown_shares(version, between):
    """The pairs of a VERSION with a sign between, - of none."""
    if version == ():
        return "-"
    shares = [f"{hand}:{many}" for hand, many in version]
    return between.join(shares)
