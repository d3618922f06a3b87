"""Points 9 and 14: what a log tells of the events that began."""

import unittest

from looms import Dice, loom_of, plain, ran

from eventloom.tale import begun, drawn, inside, turns


def nested():
    """Two turns with events within events, and rows of all kinds between them."""
    return ran(
        plain("a", [("now", "x"), ("soon", "s"), ("join", "c"), ("now", "y")], hears="go"),
        plain("b", [("leave", "c"), ("now", "y"), ("cancel", "q"), ("hush",)], hears="x"),
        plain("ear", rank=2), plain("c", hears="none"), words=["q", "go"])


class TestNested(unittest.TestCase):
    # 0 q is sent, 1 go is sent; 0 begins and ends; 1 makes 2 x (which makes 3 y), 4 s and 5 y.
    def setUp(self):
        loom = nested()
        self.log, self.events = loom.log, loom.events

    def test_the_run_is_as_thought(self):
        self.assertEqual([event[0] for event in self.events], ["q", "go", "x", "y", "s", "y"])
        self.assertEqual(set(row[0] for row in self.log),
                         set(["send", "begin", "call", "make", "cancel", "join", "leave", "hush", "end"]))

    def test_begun(self):
        self.assertEqual(begun(self.log), [0, 1, 2, 3, 5, 4])

    def test_inside(self):
        self.assertEqual(inside(self.log), [(0, None), (1, None), (2, 1), (3, 2), (5, 1), (4, None)])

    def test_turns(self):
        self.assertEqual(turns(self.log), [[0], [1, 2, 3, 5], [4]])

    def test_drawn(self):
        self.assertEqual(drawn(self.log, self.events), [
            "0 q", "  - ear", "1 go", "  - a", "  2 x", "    - b", "    3 y", "      - ear", "  5 y", "    - ear",
            "  - ear", "4 s", "  - ear"])


class TestEmpty(unittest.TestCase):
    def test_the_empty_log(self):
        for tell in (begun, inside, turns):
            self.assertEqual(tell([]), [])
        self.assertEqual(drawn([], []), [])
        self.assertEqual(drawn([], [("a", None, "wait", 0)]), [])

    def test_nothing_has_begun(self):
        loom = loom_of(plain("a"), words=["go", "x"])
        for tell in (begun, inside, turns):
            self.assertEqual(tell(loom.log), [])
        self.assertEqual(drawn(loom.log, loom.events), [])


class TestOpenAtTheEnd(unittest.TestCase):
    def test_step_by_step(self):
        loom = loom_of(plain("a", [("now", "x")], hears="go"), plain("b", [("now", "y")], hears="x"), words=["go"])
        told = {1: ([[0]], ["0 go"]), 2: ([[0]], ["0 go", "  - a"]), 3: ([[0]], ["0 go", "  - a"]),
                4: ([[0, 1]], ["0 go", "  - a", "  1 x"]), 5: ([[0, 1]], ["0 go", "  - a", "  1 x", "    - b"]),
                7: ([[0, 1, 2]], ["0 go", "  - a", "  1 x", "    - b", "    2 y"])}
        for steps in range(1, 8):
            loom.step()
            if steps in told:
                self.assertEqual(turns(loom.log), told[steps][0])
                self.assertEqual(drawn(loom.log, loom.events), told[steps][1])
        self.assertEqual(loom.around(), [0, 1, 2])
        self.assertEqual(inside(loom.log), [(0, None), (1, 0), (2, 1)])
        self.assertEqual(begun(loom.log), [0, 1, 2])

    def test_deep(self):
        loom = loom_of(plain("a", [("now", "go")], hears="go"), words=["go"])
        loom.run(3000)
        self.assertEqual(begun(loom.log), list(range(1000)))
        self.assertEqual(inside(loom.log), [(0, None)] + [(at + 1, at) for at in range(999)])
        self.assertEqual(turns(loom.log), [list(range(1000))])
        self.assertEqual(drawn(loom.log, loom.events)[-1], " " * 2000 + "- a")


class TestRows(unittest.TestCase):
    """Logs that are written out, not run."""

    log = [("send", 5), ("begin", 3, 0), ("make", 3, 1), ("send", 6), ("begin", 1, 0), ("call", 1, "ear"),
           ("cancel", 1, (5,)), ("end", 1), ("join", 3, "ear"), ("call", 3, "b"), ("leave", 3, "ear"), ("make", 3, 2),
           ("begin", 2, 0), ("end", 2), ("hush", 3), ("end", 3), ("send", 7), ("begin", 0, 9), ("call", 0, "b"),
           ("make", 0, 8), ("begin", 8, 9)]
    events = [("zero", None, "wait", 0), ("one", 3, "now", 0), ("two", 3, "now", 0), ("three", None, "wait", 0)]
    events += [("more", None, "wait", 0)] * 4 + [("eight", 0, "now", 9)]

    def test_all(self):
        self.assertEqual(begun(self.log), [3, 1, 2, 0, 8])
        self.assertEqual(inside(self.log), [(3, None), (1, 3), (2, 3), (0, None), (8, 0)])
        self.assertEqual(turns(self.log), [[3, 1, 2], [0, 8]])
        self.assertEqual(drawn(self.log, self.events), [
            "3 three", "  1 one", "    - ear", "  - b", "  2 two", "0 zero", "  - b", "  8 eight"])

    def test_the_kinds_of_the_answers(self):
        for tell in (begun, inside, turns):
            self.assertIs(type(tell(self.log)), list)
        for pair in inside(self.log):
            self.assertIs(type(pair), tuple)
        for turn in turns(self.log):
            self.assertIs(type(turn), list)
        for text in drawn(self.log, self.events):
            self.assertIs(type(text), str)

    def test_the_log_and_the_events_stay(self):
        log, events = list(self.log), list(self.events)
        for _ in range(2):
            begun(log), inside(log), turns(log), drawn(log, events)
        self.assertEqual((log, events), (self.log, self.events))

    def test_the_answers_are_the_askers_own(self):
        for tell in (begun, inside, turns, lambda log: drawn(log, self.events)):
            first = tell(self.log)
            again = tell(self.log)
            for row in first:
                if isinstance(row, list):
                    row.append("more")
            first.clear()
            self.assertEqual(tell(self.log), again)

    def test_a_loom_goes_on_as_before(self):
        loom = loom_of(plain("a", [("now", "x"), ("soon", "y")], hears="go"), words=["go"])
        while loom.step():
            for tell in (begun, inside, turns):
                tell(loom.log).clear()
            drawn(loom.log, loom.events).clear()
        still = ran(plain("a", [("now", "x"), ("soon", "y")], hears="go"))
        self.assertEqual((loom.log, loom.events), (still.log, still.events))


class TestAlongRuns(unittest.TestCase):
    def test_as_the_loom_says(self):
        dice = Dice(3)
        for seed in range(30):
            deeds = [[("now", dice.one_of("xyz")), ("soon", dice.one_of("xyz")), ("leave", dice.one_of("abc")),
                      ("join", dice.one_of("abc"))][:dice.below(5)] for _ in range(3)]
            loom = loom_of(*[plain(name, deeds[at], hears="xyz"[at], once=dice.below(2) == 0)
                             for at, name in enumerate("abc")], words=["x", "y", "z"])
            pairs, numbers, texts = [], [], []
            for _ in range(60):
                around = loom.around()
                if not loom.step():
                    break
                row = loom.log[-1]
                if row[0] == "begin":
                    numbers.append(row[1])
                    pairs.append((row[1], around[-1] if around else None))
                    texts.append("  " * len(around) + str(row[1]) + " " + loom.events[row[1]][0])
                elif row[0] == "call":
                    texts.append("  " * len(around) + "- " + row[2])
            self.assertEqual(begun(loom.log), numbers)
            self.assertEqual(inside(loom.log), pairs)
            self.assertEqual(drawn(loom.log, loom.events), texts)
            self.assertEqual([number for turn in turns(loom.log) for number in turn], numbers)
            self.assertEqual([turn[0] for turn in turns(loom.log)], [pair[0] for pair in pairs if pair[1] is None])


if __name__ == "__main__":
    unittest.main()
