"""waiting, around, standing and idle along longer runs, looms side by side, runs of many steps (points 1, 6 to 14)."""

import copy
import unittest

from looms import Dice, Model, begins, loom_of, plain, shown

from eventloom.loom import Loom

NAMES = ["a", "b", "c", "d", "e", "f", "g"]
WORDS = ["p", "q", "r", "s"]


def random_deed(dice):
    kind = dice.one_of(["now", "soon", "soon", "wait", "wait", "cancel", "join", "join", "leave", "hush"])
    if kind == "hush":
        return ("hush",)
    if kind == "wait":
        return ("wait", dice.one_of([0, 0, 1, 3, 10]), dice.one_of(WORDS))
    return (kind, dice.one_of(NAMES if kind in ("join", "leave") else WORDS))


def random_handlers(dice, most_deeds):
    return [plain(name, [random_deed(dice) for _ in range(dice.below(most_deeds + 1))],
                  hears=dice.one_of(WORDS + [""]), rank=dice.below(3) - 1, once=dice.below(4) == 0) for name in NAMES]


def random_names(dice):
    return [name for name in sorted(NAMES, key=lambda _: dice.below(1000)) if dice.below(3)]


class TestAgainstTheModel(unittest.TestCase):
    def follow(self, seed, most_deeds, steps):
        dice = Dice(seed)
        handlers, names = random_handlers(dice, most_deeds), random_names(dice)
        loom, model = Loom(handlers, names), Model(handlers, names)
        for _ in range(steps):
            if dice.below(9) == 0:
                word = dice.one_of(WORDS)
                self.assertEqual(loom.send(word), model.send(word))
            idle = loom.idle()
            done = loom.step()
            self.assertEqual(idle, not done)
            self.assertEqual(done, model.step())
            self.assertEqual(loom.log[-1:], model.log[-1:])
            self.assertEqual(shown(loom)[3:], shown(model)[3:])
            self.assertEqual(loom.time, model.time)
        self.assertEqual(shown(loom), shown(model))
        return set(row[0] for row in loom.log)

    def test_many_looms(self):
        kinds = set()
        for seed in range(400):
            kinds |= self.follow(seed, seed % 5, 60)
        self.assertEqual(len(kinds), 9)

    def test_some_longer_runs(self):
        for seed in range(400, 412):
            self.follow(seed, 4, 400)


class TestWatch(unittest.TestCase):
    def test_step_by_step(self):
        loom = loom_of(plain("a", [("wait", 4, "y"), ("now", "x"), ("soon", "z"), ("leave", "b")], hears="go"),
                       plain("b", [("soon", "y"), ("join", "c")], hears="x"), plain("c", hears="y", once=True),
                       names=["a", "b"], words=["go", "q"])
        seen = []
        while True:
            seen.append((loom.waiting(), loom.around(), loom.standing(), loom.idle(), loom.time))
            if not loom.step():
                break
        self.assertEqual(seen, [
            ([0, 1], [], ["a", "b"], False, 0),
            ([1], [0], ["a", "b"], False, 0),                   # 0 begins
            ([1], [0], ["a", "b"], False, 0),                   # a is called
            ([1, 2], [0], ["a", "b"], False, 0),                # wait makes 2
            ([3, 1, 2], [0], ["a", "b"], False, 0),             # now makes 3
            ([1, 2], [0, 3], ["a", "b"], False, 0),             # 3 begins
            ([1, 2], [0, 3], ["a", "b"], False, 0),             # b is called
            ([4, 1, 2], [0, 3], ["a", "b"], False, 0),          # soon makes 4
            ([4, 1, 2], [0, 3], ["a", "b", "c"], False, 0),     # c joins
            ([4, 1, 2], [0], ["a", "b", "c"], False, 0),        # 3 ends
            ([4, 5, 1, 2], [0], ["a", "b", "c"], False, 0),     # soon makes 5
            ([4, 5, 1, 2], [0], ["a", "c"], False, 0),          # b leaves
            ([4, 5, 1, 2], [], ["a", "c"], False, 0),           # 0 ends
            ([5, 1, 2], [4], ["a", "c"], False, 0),             # 4 begins
            ([5, 1, 2], [4], ["a"], False, 0),                  # c is called, for once
            ([5, 1, 2], [], ["a"], False, 0),                   # 4 ends
            ([1, 2], [5], ["a"], False, 0),
            ([1, 2], [], ["a"], False, 0),
            ([2], [1], ["a"], False, 0),
            ([2], [], ["a"], False, 0),
            ([], [2], ["a"], False, 4),
            ([], [], ["a"], True, 4),
        ])

    def test_the_kinds_of_the_answers(self):
        loom = loom_of(plain("a", [("now", "x")]), words=["go"])
        for _ in range(6):
            for told in (loom.waiting(), loom.around(), loom.standing()):
                self.assertIs(type(told), list)
            self.assertIs(type(loom.idle()), bool)
            loom.step()

    def test_each_told_list_is_the_askers_own(self):
        def new():
            return loom_of(plain("a", [("soon", "x"), ("wait", 2, "x"), ("now", "y"), ("leave", "b")], hears="go"),
                           plain("b"), plain("c", [("join", "b")], hears="x"), words=["go", "q"])
        loom, still = new(), new()
        for _ in range(30):
            for ask in (loom.waiting, loom.around, loom.standing):
                told = ask()
                told.append("more")
                told.reverse()
                self.assertIsNot(ask(), ask())
                told.clear()
            self.assertEqual(shown(loom), shown(still))
            self.assertEqual(loom.step(), still.step())
        self.assertEqual(shown(loom), shown(still))

    def test_a_told_list_stays_as_it_was_told(self):
        loom = loom_of(plain("a", [("soon", "x"), ("now", "y"), ("cancel", "x"), ("leave", "b")], hears="go"),
                       plain("b"), plain("c", [("join", "b")], hears="y"), words=["go", "q"])
        told = []
        while loom.step():
            for ask in (loom.waiting, loom.around, loom.standing):
                answer = ask()
                told.append((answer, list(answer)))
        for answer, before in told:
            self.assertEqual(answer, before)

    def test_asking_changes_nothing(self):
        handlers = [plain("a", [("now", "x"), ("leave", "b"), ("wait", 3, "x")], hears="go"), plain("b", once=True)]
        asked, still = loom_of(*handlers, words=["go"]), loom_of(*handlers, words=["go"])
        while still.step():
            asked.step()
            for _ in range(3):
                shown(asked)
        self.assertEqual(shown(asked), shown(still))


class TestTwoLooms(unittest.TestCase):
    def test_their_steps_mixed(self):
        dice = Dice(77)
        for seed in range(40):
            told = Dice(seed)
            handlers, names = random_handlers(told, 4), random_names(told)
            others = random_handlers(told, 4)
            pair = [Loom(handlers, names), Loom(handlers if seed % 2 else others, names)]
            alone = [Loom(handlers, names), Loom(handlers if seed % 2 else others, names)]
            moves = []
            for _ in range(80):
                which, word = dice.below(2), dice.one_of(WORDS) if dice.below(5) == 0 else None
                moves.append((which, word))
                self.move(pair[which], word)
            for which in (0, 1):
                for mover, word in moves:
                    if mover == which:
                        self.move(alone[which], word)
                self.assertEqual(shown(pair[which]), shown(alone[which]))

    def move(self, loom, word):
        if word is None:
            loom.step()
        else:
            loom.send(word)

    def test_the_other_stays_as_it_is(self):
        handlers = [plain("a", [("leave", "b"), ("now", "x"), ("soon", "x"), ("wait", 5, "x")], hears="go"),
                    plain("b", once=True)]
        first, second = loom_of(*handlers), loom_of(*handlers)
        second.send("go")
        second.run(4)
        before = copy.deepcopy(shown(second))
        first.send("x")
        first.send("go")
        first.run(1000)
        self.assertEqual(shown(second), before)
        self.assertIsNot(first.log, second.log)
        self.assertIsNot(first.events, second.events)

    def test_a_deep_copy_goes_its_own_way(self):
        loom = loom_of(plain("a", [("now", "x"), ("wait", 1, "go")], hears="go"), words=["go"])
        loom.run(6)
        other = copy.deepcopy(loom)
        other.run(50)
        self.assertEqual(len(loom.log), 7)
        loom.run(50)
        self.assertEqual(shown(loom), shown(other))


class TestLongRuns(unittest.TestCase):
    def check(self, deed, ticks):
        loom = loom_of(plain("a", [deed], hears="go"), words=["go"])
        for at in range(1000):
            self.assertEqual(loom.run(4), 4)
            self.assertEqual(loom.log[-4:], [("begin", at, at * ticks), ("call", at, "a"), ("make", at, at + 1),
                                             ("end", at)])
            self.assertIs(loom.idle(), False)
        self.assertEqual(len(loom.log), 4001)
        self.assertEqual(loom.waiting(), [1000])
        self.assertEqual(loom.around(), [])
        self.assertEqual(loom.time, 999 * ticks)
        self.assertEqual(begins(loom), [("go", at * ticks) for at in range(1000)])
        self.assertEqual(loom.events[1:], [("go", at, deed[0], (at + (deed[0] == "wait")) * ticks)
                                           for at in range(1000)])

    def test_by_soon(self):
        self.check(("soon", "go"), 0)

    def test_by_wait_with_0_ticks(self):
        self.check(("wait", 0, "go"), 0)

    def test_by_wait_with_3_ticks(self):
        self.check(("wait", 3, "go"), 3)

    def test_at_once(self):
        for deed in (("soon", "go"), ("wait", 0, "go"), ("wait", 3, "go")):
            loom = loom_of(plain("a", [deed], hears="go"), words=["go"])
            self.assertEqual(loom.run(801), 801)
            self.assertEqual(loom.log[-1], ("begin", 200, 600 if deed == ("wait", 3, "go") else 0))

    def test_deep_by_now(self):
        loom = loom_of(plain("a", [("now", "go")], hears="go"), words=["go"])
        self.assertEqual(loom.run(9000), 9000)
        self.assertEqual(loom.around(), list(range(3000)))
        self.assertEqual(loom.waiting(), [3000])
        self.assertEqual(loom.time, 0)


if __name__ == "__main__":
    unittest.main()
