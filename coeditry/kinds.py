"""What any thing is, by its kind alone."""

LEVELS = ("none", "see", "tell", "suggest", "change", "own")

# The sign for hundredths, which no text has; the rules of the language bar it from a string.
_HUNDREDTHS = 37


def is_whole(thing):
    """Whether a thing is a NUMBER, below 0 too."""
    return isinstance(thing, int) and not isinstance(thing, bool)


def is_number(thing):
    """Whether a thing is a NUMBER from 0 on."""
    return is_whole(thing) and thing >= 0


def is_small_letter(sign):
    """Whether a sign is a small letter."""
    return "a" <= sign <= "z"


def is_word(thing):
    """Whether a thing is a WORD."""
    return isinstance(thing, str) and 1 <= len(thing) <= 8 and all([is_small_letter(sign) for sign in thing])


def is_sign(sign):
    """Whether a sign may stand in a text without line ends."""
    return " " <= sign <= "~" and ord(sign) != _HUNDREDTHS


def is_text_to(thing, most):
    """Whether a thing is a text of one to most signs, none a line end."""
    return isinstance(thing, str) and 1 <= len(thing) <= most and all([is_sign(sign) for sign in thing])


def is_signs(thing):
    """Whether a thing is SIGNS."""
    return is_text_to(thing, 12)


def is_said(thing):
    """Whether a thing is the words of a "say"."""
    return is_text_to(thing, 40)


def is_value(thing):
    """Whether a thing is a VALUE."""
    return is_whole(thing) or is_signs(thing)


def is_pair(thing):
    """Whether a thing is a tuple of two things."""
    return isinstance(thing, tuple) and len(thing) == 2


def are_pairs(thing):
    """Whether a thing is a tuple, perhaps (), of pairs of any things."""
    return isinstance(thing, tuple) and all([is_pair(one) for one in thing])


def is_key(thing):
    """Whether a thing is a KEY."""
    return is_pair(thing) and is_word(thing[0]) and is_number(thing[1])


def is_name(thing):
    """Whether a thing is a NAME."""
    return is_pair(thing) and is_key(thing[0]) and is_number(thing[1])


def rises(things):
    """Whether each of things, that can be ordered, is above the one ahead."""
    return all([things[at - 1] < things[at] for at in range(1, len(things))])


def are_names(thing):
    """Whether a thing is NAMES."""
    if not isinstance(thing, tuple) or len(thing) == 0:
        return False
    return all([is_name(name) for name in thing]) and rises(thing)


def is_level(thing):
    """Whether a thing is a LEVEL."""
    return isinstance(thing, str) and thing in LEVELS


def reaches(one, other):
    """Whether the LEVEL one is the LEVEL other or above it."""
    return LEVELS.index(one) >= LEVELS.index(other)


def is_share(thing):
    """Whether a thing is a pair (HAND, many), many from 1 on."""
    return is_key(thing) and thing[1] > 0


def is_version(thing):
    """Whether a thing is a VERSION."""
    if not isinstance(thing, tuple):
        return False
    return all([is_share(share) for share in thing]) and rises([share[0] for share in thing])
