"""Handlers and deeds: what is one, what is refused, who hears a word."""

from eventloom.errors import NoHandler, Stranger, Twice
from eventloom.words import is_whole, is_word

MOST_HANDLERS = 40
MOST_DEEDS = 30
MOST_TICKS = 1000000000

WORD_DEEDS = ("now", "soon", "cancel", "join", "leave")
NAME_DEEDS = ("join", "leave")


def is_ticks(thing):
    """True for what "wait" may wait, else False."""
    return is_whole(thing) and 0 <= thing <= MOST_TICKS


def is_deed(thing):
    """True for a deed, else False."""
    if not isinstance(thing, tuple) or len(thing) == 0:
        return False
    kind = thing[0]
    # Only a text is compared with texts: another thing may equal whatever it likes.
    if not isinstance(kind, str):
        return False
    if kind == "hush":
        return len(thing) == 1
    if kind == "wait":
        return len(thing) == 3 and is_ticks(thing[1]) and is_word(thing[2])
    return kind in WORD_DEEDS and len(thing) == 2 and is_word(thing[1])


def are_deeds(thing):
    """True for the deeds of one handler, else False."""
    if not isinstance(thing, (list, tuple)) or len(thing) > MOST_DEEDS:
        return False
    return all([is_deed(deed) for deed in thing])


def is_hearing(thing):
    """True for a word and for the empty text, which hears all words; else False."""
    return is_word(thing) or (isinstance(thing, str) and thing == "")


def is_handler(thing):
    """True for a handler, else False."""
    if not isinstance(thing, tuple) or len(thing) != 5:
        return False
    name, rank, hears, once, deeds = thing
    if not is_word(name) or not is_whole(rank) or not is_hearing(hears):
        return False
    return isinstance(once, bool) and are_deeds(deeds)


def need_no_strangers(handlers):
    """Stranger for a name in a join or leave that no handler has."""
    known = [handler[0] for handler in handlers]
    for handler in handlers:
        for deed in handler[4]:
            if deed[0] in NAME_DEEDS and deed[1] not in known:
                raise Stranger("a join or leave tells a name that no handler has")


def need_handlers(handlers):
    """The handlers as a new list of tuples; NoHandler, Twice and Stranger as point 5 tells."""
    kept = []
    taken = []
    for place, handler in enumerate(handlers):
        if place >= MOST_HANDLERS or not is_handler(handler):
            raise NoHandler(f"place {place} holds no handler")
        name, rank, hears, once, deeds = handler
        if name in taken:
            raise Twice(f"the handler at place {place} has the name of an earlier one")
        taken.append(name)
        # The deeds may be the asker's list, which may change later.
        kept.append((name, rank, hears, once, tuple(deeds)))
    need_no_strangers(kept)
    return kept


def need_names(handlers, names):
    """The names of those that stand at first as a new list; Stranger and Twice as point 5 tells."""
    known = [handler[0] for handler in handlers]
    kept = []
    for place, name in enumerate(names):
        # Asked first whether it is a word: another thing may equal whatever it likes.
        if not is_word(name) or name not in known:
            raise Stranger(f"no handler has the name at place {place}")
        if name in kept:
            raise Twice(f"the name at place {place} is told before")
        kept.append(name)
    return kept


def hearers(handlers, names, word):
    """The names of those that stand and hear the word, in the order of their calls."""
    ranks = {handler[0]: handler[1] for handler in handlers if handler[2] in ("", word)}
    heard = [(ranks[name], name) for name in names if name in ranks]
    # By rank alone: the sort leaves like ranks in the order in which they stand.
    heard = sorted(heard, key=lambda pair: pair[0])
    return [name for _, name in heard]
