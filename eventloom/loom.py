"""A loom: its handlers, its events, and the steps in which the events are handled."""

from eventloom.errors import NoCount
from eventloom.handlers import hearers, need_handlers, need_names
from eventloom.stands import Stands
from eventloom.waits import Waits
from eventloom.words import is_whole, need_word

ROADS = ("now", "soon", "wait")


class Handling:
    """An open event: who is still to come for it, and what the handler called last has still to do."""

    def __init__(self, number, settled):
        self.number = number
        # Pairs of a name and the number of the coming by which it stood as the event began.
        self.settled = settled
        self.deeds = []


class Loom:
    """Handlers, the events that they hear and make, and the log of all that was done."""

    def __init__(self, handlers, names):
        kept = need_handlers(handlers)
        self.time = 0
        self.events = []
        self.log = []
        self._handlers = kept
        self._by_name = {handler[0]: handler for handler in kept}
        self._stands = Stands()
        self._waits = Waits()
        # The number of the event just made by "now", or None.
        self._fresh = None
        # The open events, the innermost last.
        self._handlings = []
        for name in need_names(kept, names):
            self._stands.come(name)

    def send(self, word):
        """An event without a maker, due at once; its number. NoWord for what is no word."""
        number = self._add_event(need_word(word), None, "wait", self.time)
        self.log.append(("send", number))
        return number

    def step(self):
        """The next step: True where something was done, else False."""
        if self._fresh is not None:
            number = self._fresh
            self._fresh = None
            self._begin(number)
            return True
        if len(self._handlings) > 0:
            self._go_on(self._handlings[-1])
            return True
        return self._begin_waiting()

    def run(self, most):
        """So many steps, or fewer if nothing is left; how many were done. NoCount for what is no such number."""
        if not is_whole(most) or most < 0:
            raise NoCount("the number of steps is a whole number from 0 on")
        done = 0
        while done < most and self.step():
            done += 1
        return done

    def waiting(self):
        """The numbers of the events that are still to begin, in the order in which they would begin."""
        lineup = self._waits.lineup()
        if self._fresh is None:
            return lineup
        return [self._fresh] + lineup

    def around(self):
        """The numbers of the open events, the innermost last."""
        return [handling.number for handling in self._handlings]

    def standing(self):
        """The names of the handlers that stand, as they came to stand."""
        return self._stands.names()

    def idle(self):
        """True where a step would do nothing, else False."""
        return self._fresh is None and len(self._handlings) == 0 and self._waits.empty()

    def _add_event(self, word, maker, road, due):
        """A new event, put where its road lets it wait; its number."""
        number = len(self.events)
        self.events.append((word, maker, road, due))
        if road == "now":
            self._fresh = number
        elif road == "soon":
            self._waits.sooner(number)
        else:
            self._waits.later(number, due)
        return number

    def _begin_waiting(self):
        """The first event that waits begins: True, or False where none waits."""
        lead = self._waits.lead()
        if lead is None:
            return False
        number, due = lead
        if due is not None and due > self.time:
            self.time = due
        self._begin(number)
        return True

    def _begin(self, number):
        """The event is open from here on, and its handlers are settled."""
        heard = hearers(self._handlers, self._stands.names(), self.events[number][0])
        settled = [(name, self._stands.coming(name)) for name in heard]
        self._handlings.append(Handling(number, settled))
        self.log.append(("begin", number, self.time))

    def _go_on(self, handling):
        """The next step of the innermost open event: a deed, a call or its end."""
        if len(handling.deeds) > 0:
            self._do(handling.deeds.pop(0), handling)
            return
        name = self._next_name(handling)
        if name is not None:
            self._call(name, handling)
            return
        self._handlings.pop()
        self.log.append(("end", handling.number))

    def _next_name(self, handling):
        """The next handler's name, or None where no more are to come; who was sent away is passed over."""
        while len(handling.settled) > 0:
            name, coming = handling.settled.pop(0)
            if self._stands.coming(name) == coming:
                return name
        return None

    def _call(self, name, handling):
        """The handler's deeds are the next to be done; who is for once stands no more."""
        _, _, _, once, deeds = self._by_name[name]
        if once:
            self._stands.leave(name)
        handling.deeds = list(deeds)
        self.log.append(("call", handling.number, name))

    def _do(self, deed, handling):
        """One deed of the handler called last for the innermost open event."""
        kind = deed[0]
        if kind in ROADS:
            self._make(deed, handling.number)
        elif kind == "cancel":
            self._cancel(deed[1], handling.number)
        elif kind == "join":
            self._stands.come(deed[1])
            self.log.append(("join", handling.number, deed[1]))
        elif kind == "leave":
            self._stands.leave(deed[1])
            self.log.append(("leave", handling.number, deed[1]))
        else:
            handling.settled = []
            self.log.append(("hush", handling.number))

    def _make(self, deed, maker):
        """The event of a deed "now", "soon" or "wait"."""
        due = self.time
        if deed[0] == "wait":
            due = due + deed[1]
        number = self._add_event(deed[-1], maker, deed[0], due)
        self.log.append(("make", maker, number))

    def _cancel(self, word, canceller):
        """All events of the word that wait by "soon" and "wait" never begin."""
        gone = sorted([number for number in self._waits.lineup() if self.events[number][0] == word])
        self._waits.drop(gone)
        self.log.append(("cancel", canceller, tuple(gone)))
