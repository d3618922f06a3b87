"""Handlers and looms for the tests, and a slow second loom that follows the document word by word."""

from eventloom.loom import Loom


def plain(name, deeds=(), hears="", rank=0, once=False):
    return (name, rank, hears, once, list(deeds))


def loom_of(*handlers, names=None, words=()):
    """A loom in which all stand, if no names are told, and to which the words were sent."""
    loom = Loom(list(handlers), [row[0] for row in handlers] if names is None else list(names))
    for word in words:
        loom.send(word)
    return loom


def ran(*handlers, names=None, words=("go",), most=1000):
    """The same, run until nothing is left."""
    loom = loom_of(*handlers, names=names, words=words)
    loom.run(most)
    if not loom.idle():
        raise AssertionError("something is left")
    return loom


def rows(loom, *kinds):
    """The rows of these kinds."""
    return [row for row in loom.log if row[0] in kinds]


def calls(loom):
    """The number and the name of each call."""
    return [row[1:] for row in rows(loom, "call")]


def begins(loom):
    """The word and the time of each event that began, in this order."""
    return [(loom.events[row[1]][0], row[2]) for row in rows(loom, "begin")]


def shown(loom):
    """All that may be asked of a loom."""
    return (loom.time, list(loom.events), list(loom.log), loom.waiting(), loom.around(), loom.standing(), loom.idle())


class Model:
    """Asks anew at each step, of each event ever made, what the document says is there to be done."""

    def __init__(self, handlers, names):
        self.handlers = {row[0]: row for row in handlers}
        self.stood = list(names)
        self.time = 0
        self.events = []
        self.log = []
        self.state = []
        self.nest = []

    def made(self, word, maker, road, due):
        self.events.append((word, maker, road, due))
        self.state.append("made")
        return len(self.events) - 1

    def send(self, word):
        number = self.made(word, None, "wait", self.time)
        self.log.append(("send", number))
        return number

    def of_road(self, road):
        found = [at for at, event in enumerate(self.events) if self.state[at] == "made" and event[2] == road]
        return sorted(found, key=lambda at: (self.events[at][3] if road == "wait" else 0, at))

    def waiting(self):
        return self.of_road("now") + self.of_road("soon") + self.of_road("wait")

    def around(self):
        return [place["number"] for place in self.nest]

    def standing(self):
        return list(self.stood)

    def idle(self):
        return not self.nest and "made" not in self.state

    def begin(self, number):
        word, _, road, due = self.events[number]
        if road == "wait":
            self.time = max(self.time, due)
        heard = [name for name in self.stood if self.handlers[name][2] in ("", word)]
        heard.sort(key=lambda name: self.handlers[name][1])
        self.state[number] = "open"
        self.nest.append({"number": number, "calls": heard, "deeds": []})
        self.log.append(("begin", number, self.time))

    def send_away(self, name):
        if name in self.stood:
            self.stood.remove(name)
        for place in self.nest:
            place["calls"] = [other for other in place["calls"] if other != name]

    def step(self):
        if self.of_road("now"):
            self.begin(self.of_road("now")[0])
        elif self.nest:
            self.inner_step(self.nest[-1])
        elif self.waiting():
            self.begin(self.waiting()[0])
        else:
            return False
        return True

    def inner_step(self, place):
        if place["deeds"]:
            deed = place["deeds"][0]
            place["deeds"] = place["deeds"][1:]
            self.do(deed, place)
        elif place["calls"]:
            name = place["calls"].pop(0)
            if self.handlers[name][3]:
                self.send_away(name)
            place["deeds"] = list(self.handlers[name][4])
            self.log.append(("call", place["number"], name))
        else:
            self.nest.pop()
            self.state[place["number"]] = "ended"
            self.log.append(("end", place["number"]))

    def do(self, deed, place):
        kind, number = deed[0], place["number"]
        if kind in ("now", "soon"):
            self.log.append(("make", number, self.made(deed[1], number, kind, self.time)))
        elif kind == "wait":
            self.log.append(("make", number, self.made(deed[2], number, kind, self.time + deed[1])))
        elif kind == "cancel":
            gone = [at for at in range(len(self.events)) if self.state[at] == "made" and self.events[at][0] == deed[1]]
            for at in gone:
                self.state[at] = "cancelled"
            self.log.append(("cancel", number, tuple(gone)))
        elif kind == "hush":
            place["calls"] = []
            self.log.append(("hush", number))
        else:
            if kind == "leave":
                self.send_away(deed[1])
            elif deed[1] not in self.stood:
                self.stood.append(deed[1])
            self.log.append((kind, number, deed[1]))


class Dice:
    """Told numbers that look like chance: the same in every run and under every Python."""

    def __init__(self, seed):
        self.seed = seed

    def below(self, most):
        self.seed = (self.seed * 6364136223846793005 + 1442695040888963407) % 2 ** 64
        return (self.seed >> 33) % most

    def one_of(self, things):
        return things[self.below(len(things))]
