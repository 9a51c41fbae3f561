"""COPIES and their LETTERS."""

from coeditry.deeds import key_of
from coeditry.errors import NoDeed


class Post:
    """COPIES by their HANDS, LETTERS on the way, and those that CAME; it is never changed, each deed tells another."""

    def __init__(self, copies, way, came):
        """LETTERS are handed in as tuples of (to, LETTER)."""
        self.copies = copies
        self.way = way
        self.came = came

    def __eq__(self, other):
        if not isinstance(other, Post):
            return False
        return self.copies == other.copies and self.way == other.way and self.came == other.came


def after_make(post, hand, what):
    """The Post behind a DEED that the COPY of the HAND makes, and its KEY; or NoDeed."""
    twin = post.copies[hand].twin()
    deed = twin.make(what)
    return (_with_copy(post, twin), key_of(deed))


def after_send(post, sender, to):
    """The Post behind a LETTER that one writes to the other, and how many DEEDS it has; or NoDeed("letter")."""
    if sender == to:
        raise NoDeed("letter")
    letter = post.copies[sender].write(to=to)
    return (Post(post.copies, post.way + ((to, letter),), post.came), _many_in(letter))


def after_come(post, k):
    """The Post behind the LETTER that comes, number k on the way, and the KEYS that came to be KNOWN; or NoDeed."""
    to, letter = _numbered(post.way, k)
    there = Post(post.copies, _without(post.way, k), post.came + ((to, letter),))
    return _after_read(there, to, letter)


def after_again(post, k):
    """The Post behind the LETTER that comes again, and the KEYS that came to be KNOWN; or NoDeed."""
    to, letter = _numbered(post.came, k)
    return _after_read(post, to, letter)


def after_lose(post, k):
    """The Post without the LETTER number k on the way, and how many DEEDS it has; or NoDeed("letter")."""
    _, letter = _numbered(post.way, k)
    return (Post(post.copies, _without(post.way, k), post.came), _many_in(letter))


def _after_read(post, to, letter):
    twin = post.copies[to].twin()
    keys = twin.read(letter)
    return (_with_copy(post, twin), keys)


def _with_copy(post, twin):
    """The Post with this COPY in place of its HAND's."""
    copies = {hand: post.copies[hand] for hand in post.copies}
    copies[twin.whose()] = twin
    return Post(copies, post.way, post.came)


def _numbered(letters, k):
    """The pair number k; NoDeed("letter") where there is none."""
    if k >= len(letters):
        raise NoDeed("letter")
    return letters[k]


def _without(letters, k):
    return letters[:k] + letters[k + 1:]


def _many_in(letter):
    """How many DEEDS the LETTER has."""
    return len(letter[2])
