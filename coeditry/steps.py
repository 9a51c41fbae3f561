"""STEPS: what is done in a house."""

from coeditry.errors import NoCopy, NoDeed
from coeditry.forms import STEPS
from coeditry.kinds import is_number, is_word
from coeditry.posts import after_again, after_come, after_lose, after_make, after_send
from coeditry.whats import is_what


def after_step(post, thing):
    """The Post behind a STEP, any thing, and what this tells; or NoDeed, NoCopy."""
    if _is_single(thing):
        return _after_single(post, thing)
    if not _is_all(thing):
        raise NoDeed("step")
    last = post
    told = []
    for step in thing[1]:
        last, tells = _after_single(last, step)
        told.append(tells)
    return (last, tuple(told))


def _after_single(post, step):
    """The Post behind a STEP that is no "all", and what this tells; or NoDeed, NoCopy."""
    word = step[0]
    for kind, thing in zip(STEPS[word], step[1:]):
        if kind == "word" and thing not in post.copies:
            raise NoCopy(thing)
    if word == "make":
        return after_make(post, step[1], step[2])
    if word == "send":
        return after_send(post, step[1], step[2])
    if word == "come":
        return after_come(post, step[1])
    if word == "again":
        return after_again(post, step[1])
    return after_lose(post, step[1])


def _is_single(thing):
    """Whether a thing is a STEP, but no "all", by kind."""
    if not isinstance(thing, tuple) or len(thing) == 0 or not isinstance(thing[0], str):
        return False
    kinds = STEPS.get(thing[0], ())
    if len(kinds) == 0 or len(thing) != len(kinds) + 1:
        return False
    return all([_fits(kind, one) for kind, one in zip(kinds, thing[1:])])


def _is_all(thing):
    """Whether a thing is an "all" by kind."""
    if not isinstance(thing, tuple) or len(thing) != 2 or thing[0] != "all":
        return False
    return isinstance(thing[1], tuple) and all([_is_single(step) for step in thing[1]])


def _fits(kind, thing):
    if kind == "word":
        return is_word(thing)
    if kind == "number":
        return is_number(thing)
    return is_what(thing)
