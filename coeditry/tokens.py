"""What one word of a row writes: a tuple of the one thing, () where the word can't stand."""

from coeditry.forms import FORMS, INNERS, SORTS
from coeditry.kinds import are_names, is_level, is_said, is_signs, is_version, is_word

_MOST_FIGURES = 12


def words_of(row):
    """The words of a row: what stands between single blanks, but from ' on all the rest is one."""
    if row.startswith("'"):
        return [row]
    at = row.find(" '")
    if at < 0:
        return row.split(" ")
    return row[:at].split(" ") + [row[at + 1:]]


def read_one(kind, word):
    """The thing of the kind that the word writes."""
    if kind in ("after", "parent", "at") and word == "-":
        return (None,)
    if kind in ("signs", "said"):
        return _read_quoted(kind, word)
    if kind == "value":
        return _read_quoted("signs", word) or _read_whole(word)
    if kind == "number":
        return _read_number(word)
    if kind == "truth":
        return (word == "+",) if word in ("+", "/") else ()
    if kind == "knew":
        return _read_knew(word)
    if kind in ("key", "parent", "after", "names", "on", "at"):
        return _read_named(kind, word)
    return (word,) if _is_plain(kind, word) else ()


def read_share(word):
    """The pair (HAND, many) that the word writes."""
    parts = word.split(":")
    if len(parts) != 2 or not is_word(parts[0]) or not _are_figures(parts[1]) or parts[1] == "0":
        return ()
    return ((parts[0], int(parts[1])),)


def _is_plain(kind, word):
    """Whether the word is itself the text that the kind asks for."""
    if kind == "what":
        return word in FORMS
    if kind == "inner":
        return word in INNERS
    if kind == "sort":
        return word in SORTS
    if kind == "level":
        return is_level(word)
    return is_word(word)


def _read_quoted(kind, word):
    text = word[1:]
    if not word.startswith("'"):
        return ()
    fits = is_said(text) if kind == "said" else is_signs(text)
    return (text,) if fits else ()


def _are_figures(word):
    """Whether the word writes a NUMBER from 0 on."""
    if not 1 <= len(word) <= _MOST_FIGURES or not all(["0" <= sign <= "9" for sign in word]):
        return False
    return word == "0" or word[0] != "0"


def _read_number(word):
    return (int(word),) if _are_figures(word) else ()


def _read_whole(word):
    """The NUMBER, below 0 too, that the word writes."""
    if word.startswith("-") and word != "-0" and _are_figures(word[1:]):
        return (-int(word[1:]),)
    return _read_number(word)


def _read_knew(word):
    """The VERSION that the one word of a DEED writes."""
    if word == "-":
        return ((),)
    shares = []
    for part in word.split(","):
        shares.extend(read_share(part))
    version = tuple(shares)
    return (version,) if len(version) == len(word.split(",")) and is_version(version) else ()


def _read_named(kind, word):
    """The KEY, the NAME, the NAMES that the word writes, as the kind asks for."""
    if kind in ("key", "parent"):
        return _read_key(word)
    if kind == "after":
        return _read_name(word)
    if kind == "names":
        return _read_names(word)
    if kind == "on":
        return _read_key(word) or _read_names(word)
    return _read_key(word) or _read_name(word)


def _read_key(word):
    parts = word.split(".")
    if len(parts) != 2 or not is_word(parts[0]) or not _are_figures(parts[1]):
        return ()
    return ((parts[0], int(parts[1])),)


def _read_name(word):
    key, _, k = word.rpartition(".")
    read = _read_key(key)
    if read == () or not _are_figures(k):
        return ()
    return ((read[0], int(k)),)


def _read_names(word):
    found = []
    for part in word.split(","):
        found.extend(_read_name(part))
    names = tuple(found)
    return (names,) if len(names) == len(word.split(",")) and are_names(names) else ()
