"""The forms of the rows that a desk answers."""

from coeditry.errors import NoText
from coeditry.forms import STEPS
from coeditry.kinds import is_word, rises
from coeditry.readings import read_what
from coeditry.tokens import read_one

_MOST_HANDS = 4

# The rows whose things are a word each; a "word" is a HAND.
_ROWS = {
    "back": ("number",),
    "steps": (),
    "letters": (),
    "book": ("word",),
    "waiting": ("word",),
    "sees": ("word",),
    "text": ("word", "key"),
}


def form_of(row):
    """A row, any text, as a tuple of its word and its things, () where it is of no form."""
    word, _, rest = row.partition(" ")
    if word == "open":
        return _read_hands(rest)
    if word in ("do", "all"):
        return _read_steps(word, rest)
    if word == "find":
        return _read_find(rest)
    if row == "back":
        return ("back", 1)
    return _read_words(_ROWS.get(word), row)


def _read_hands(text):
    """A row of HANDS for a new house."""
    hands = text.split(" ")
    if len(hands) > _MOST_HANDS or not all([is_word(hand) for hand in hands]) or not rises(hands):
        return ()
    return ("open", tuple(hands))


def _read_steps(word, text):
    """A row of STEPS, with its word."""
    # They are parted ahead of all else, also within SIGNS.
    steps = tuple([_read_step(part) for part in text.split(" | ")])
    return () if () in steps else (word, steps)


def _read_step(text):
    """The STEP that the text writes, () where it writes none."""
    word, _, rest = text.partition(" ")
    if word != "make":
        return _read_words(STEPS.get(word), text)
    hand, _, what = rest.partition(" ")
    if not is_word(hand):
        return ()
    try:
        return ("make", hand, read_what(what))
    except NoText:
        return ()


def _read_find(text):
    """A row of a HAND and of any text to be found."""
    hand, blank, found = text.partition(" ")
    return ("find", hand, found) if blank == " " and is_word(hand) else ()


def _read_words(kinds, text):
    """A text of its word, and of one word for a thing of each of the kinds; None of these where it is of no form."""
    words = text.split(" ")
    if kinds is None or len(words) != len(kinds) + 1:
        return ()
    told = [words[0]]
    for kind, word in zip(kinds, words[1:]):
        read = read_one(kind, word)
        if read == ():
            return ()
        told.extend(read)
    return tuple(told)
