"""The handlers that stand."""


class Stands:
    """The names of the handlers that stand, as they came to stand."""

    def __init__(self):
        # Each name has the number of its coming: who goes and comes again has another one,
        # so that an event that was settled before can tell that it was sent away.
        self.comings = {}
        self.many = 0

    def come(self, name):
        """The handler comes to stand behind all others; if it stands, nothing changes."""
        if name not in self.comings:
            self.comings[name] = self.many
            self.many += 1

    def leave(self, name):
        """The handler is sent away; if it does not stand, nothing changes."""
        if name in self.comings:
            del self.comings[name]

    def coming(self, name):
        """The number of the coming by which the handler stands, or None."""
        return self.comings.get(name)

    def names(self):
        """A new list of the names, as they came to stand."""
        return list(self.comings)
