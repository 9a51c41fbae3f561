"""A house of COPIES that write one another."""

from coeditry.copies import Copy
from coeditry.errors import NoBack, NoCopy
from coeditry.kinds import is_number, is_word
from coeditry.marks import AGE
from coeditry.posts import Post
from coeditry.steps import after_step
from coeditry.views import view
from coeditry.words import spots_of

LIMIT = 200


class House:
    """HANDS, a COPY of each, their LETTERS, and the STEPS that were done."""

    def __init__(self, hands):
        self._post = Post({hand: Copy(hand) for hand in hands}, (), ())
        # Of each STEP what was there ahead of it, for it may be undone.
        self._done = []
        self._begun = 0
        self._ended = 0

    def step(self, thing):
        """Does a STEP, any thing, and tells what it tells; or NoDeed, NoCopy."""
        self._begun += 1
        try:
            return self._do(thing)
        finally:
            self._ended += 1

    def run(self, steps, *, most=LIMIT):
        """Does the first most of STEPS, any things: how many; or NoDeed, NoCopy, where those ahead stand."""
        self._begun += 1
        try:
            first = steps[:most]
            for thing in first:
                self._do(thing)
            return len(first)
        finally:
            self._ended += 1

    def back(self, *, times=1):
        """Undoes the last so many STEPS, any thing, and tells them, the last one first; or NoBack."""
        self._begun += 1
        try:
            return self._undo(times)
        finally:
            self._ended += 1

    def steps(self):
        """The STEPS that were done."""
        return tuple([thing for thing, _ in self._done])

    def letters(self):
        """The LETTERS on the way, as they went: a tuple of (to, LETTER)."""
        return self._post.way

    def book(self, hand):
        """The BOOK of the COPY of a HAND, any thing; or NoCopy."""
        return self._copy_of(hand).book()

    def waiting(self, hand):
        """The WAITING DEEDS of the COPY of a HAND, any thing; or NoCopy."""
        return self._copy_of(hand).waiting()

    def view(self, hand, *, age=AGE):
        """The VIEW of a HAND, any thing; or NoCopy."""
        return view(self.book(hand), hand=hand, age=age)

    def spots(self, hand, word):
        """The SPOTS of any text in the VIEW of a HAND, any thing; or NoCopy."""
        return spots_of(self.view(hand), word)

    def has(self, thing):
        """Whether any thing is one of its HANDS."""
        return is_word(thing) and thing in self._post.copies

    def hands(self):
        """Its HANDS."""
        return tuple(self._post.copies)

    def counts(self):
        """How many deeds were begun, and how many ended."""
        return (self._begun, self._ended)

    def __len__(self):
        return len(self._done)

    def __str__(self):
        copies = self._post.copies
        return " ".join([f"{hand}:{len(copies[hand])}" for hand in copies])

    def __eq__(self, other):
        return isinstance(other, House) and self._post == other._post

    def _do(self, thing):
        post, told = after_step(self._post, thing)
        self._done.append((thing, self._post))
        self._post = post
        return told

    def _undo(self, times):
        if not is_number(times) or not 1 <= times <= len(self._done):
            raise NoBack(times)
        first = len(self._done) - times
        undone = [thing for thing, _ in self._done[first:]]
        self._post = self._done[first][1]
        self._done = self._done[:first]
        return tuple(undone[::-1])

    def _copy_of(self, hand):
        if not self.has(hand):
            raise NoCopy(hand)
        return self._post.copies[hand]
