"""Whole numbers and words."""

from eventloom.errors import NoWord

MOST_SIGNS = 12


def is_whole(thing):
    """True for a whole number, else False."""
    return isinstance(thing, int) and not isinstance(thing, bool)


def is_word(thing):
    """True for a word, else False."""
    if not isinstance(thing, str) or not 1 <= len(thing) <= MOST_SIGNS:
        return False
    return all(["a" <= sign <= "z" for sign in thing])


def need_word(thing):
    """The word; NoWord for what is none."""
    # No error text shows the thing: writing out any thing at all may itself fail.
    if not is_word(thing):
        raise NoWord("a word is a text of 1 to 12 signs from a to z")
    return thing
