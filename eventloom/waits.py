"""The events that wait, in the order in which they would begin."""

from collections import deque
from heapq import heapify, heappop, heappush


class Waits:
    """The events that wait by the roads "soon" and "wait"."""

    def __init__(self):
        self.early = deque()
        # A heap of pairs, the due ahead of the number: of like dues the lesser number comes first.
        self.late = []

    def sooner(self, number):
        """One more by the road "soon"."""
        self.early.append(number)

    def later(self, number, due):
        """One more by the road "wait"."""
        heappush(self.late, (due, number))

    def empty(self):
        """True where none waits, else False."""
        return len(self.early) == 0 and len(self.late) == 0

    def lineup(self):
        """The numbers of all that wait, as they would begin."""
        return list(self.early) + [number for _, number in sorted(self.late)]

    def lead(self):
        """The first one's number and due (None by "soon"), which waits no more; None where none waits."""
        if len(self.early) > 0:
            return (self.early.popleft(), None)
        if len(self.late) == 0:
            return None
        due, number = heappop(self.late)
        return (number, due)

    def drop(self, numbers):
        """Those of the numbers wait no more; others change nothing."""
        gone = {number: True for number in numbers}
        self.early = deque([number for number in self.early if number not in gone])
        self.late = [pair for pair in self.late if pair[1] not in gone]
        heapify(self.late)
