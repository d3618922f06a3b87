"""Points 5 to 9 and 1: what a loom refuses and keeps, send, step, run, idle, and its fields."""

import copy
import unittest

from looms import Model, loom_of, plain, ran, shown
from things import NO_WORDS, ODD_THINGS, Angry, Equal

from eventloom.errors import LoomError, NoCount, NoHandler, NoWord, Stranger, Twice
from eventloom.loom import Loom

SMALL = "abcdefghijklmnopqrstuvwxyz"
NO_COUNTS = ODD_THINGS + [-1, -2, -10 ** 6000, "", "0", "1", "go", (), (1,), [1], 0.0, 1.0, -0.5]


def many(count):
    return [plain("h" + SMALL[at // 26] + SMALL[at % 26]) for at in range(count)]


class Case(unittest.TestCase):
    def refused(self, error, call, *told):
        """The call is refused with just this error."""
        with self.assertRaises(LoomError) as caught:
            call(*told)
        self.assertIs(caught.exception.__class__, error)


class TestNew(unittest.TestCase):
    def test_what_a_new_loom_shows(self):
        loom = Loom([plain("a"), plain("b")], ["b"])
        self.assertEqual(set(["time", "events", "log"]) - set(vars(loom)), set())
        self.assertIs(type(loom.time), int)
        self.assertEqual(shown(loom), (0, [], [], [], [], ["b"], True))

    def test_nobody_at_all(self):
        loom = Loom([], [])
        self.assertEqual(shown(loom), (0, [], [], [], [], [], True))
        self.assertIs(loom.step(), False)
        self.assertEqual(loom.send("a"), 0)
        self.assertEqual(loom.run(10), 2)
        self.assertEqual(loom.log, [("send", 0), ("begin", 0, 0), ("end", 0)])

    def test_those_that_stand_at_first_in_this_order(self):
        for names in ([], ["a"], ["c", "a", "b"], ["b", "c", "a"]):
            loom = loom_of(plain("a"), plain("b"), plain("c"), names=names, words=["w"])
            self.assertEqual(loom.standing(), names)
            loom.run(100)
            self.assertEqual([row[2] for row in loom.log if row[0] == "call"], names)

    def test_most_handlers_and_most_deeds(self):
        handlers = many(39) + [plain("last", [("now", "x")] * 30, hears="w")]
        loom = loom_of(*handlers, words=["w"])
        self.assertEqual(len(loom.standing()), 40)
        loom.run(10000)
        self.assertEqual(len([row for row in loom.log if row[0] == "make"]), 30)
        self.assertEqual(len([row for row in loom.log if row[0] == "call"]), 39 * 31 + 1)

    def test_deeds_as_a_tuple(self):
        listed = ran(("a", 0, "go", False, [("now", "x"), ("hush",)]))
        told = ran(("a", 0, "go", False, (("now", "x"), ("hush",))))
        self.assertEqual(listed.log, told.log)


class TestRefusals(Case):
    def test_no_handler(self):
        for thing in ODD_THINGS + ["", "a", 0, (), ("a",), ["a", 0, "", False, []], ("a", 0, "", 0, []),
                                   ("", 0, "", False, []), ("a", True, "", False, []), ("a", 0, None, False, []),
                                   ("a", 0, "", False, None), ("a", 0, "", False, [("wait", -1, "b")]),
                                   (Equal(), 0, "", False, []), (Angry(), 0, "", False, [])]:
            self.refused(NoHandler, Loom, [thing], [])
            self.refused(NoHandler, Loom, [plain("b"), thing], ["b"])

    def test_forty_one_handlers(self):
        self.assertEqual(Loom(many(40), []).standing(), [])
        self.refused(NoHandler, Loom, many(41), [])
        self.refused(NoHandler, Loom, many(41), ["haa", "haa"])

    def test_thirty_one_deeds(self):
        for kind in (list, tuple):
            self.assertEqual(Loom([("a", 0, "", False, kind([("hush",)] * 30))], ["a"]).standing(), ["a"])
            self.refused(NoHandler, Loom, [("a", 0, "", False, kind([("hush",)] * 31))], ["a"])

    def test_a_name_twice(self):
        self.refused(Twice, Loom, [plain("a"), plain("b"), plain("a")], [])

    def test_a_stranger_in_a_deed(self):
        for kind in ("join", "leave"):
            self.refused(Stranger, Loom, [plain("a", [(kind, "b")])], ["a"])
            self.refused(Stranger, Loom, [plain("a", [(kind, "b")])], [])
            self.assertEqual(Loom([plain("a", [(kind, "b")]), plain("b")], ["a"]).standing(), ["a"])

    def test_a_stranger_that_stands(self):
        for thing in NO_WORDS + ["b", "aa"]:
            self.refused(Stranger, Loom, [plain("a")], [thing])
            self.refused(Stranger, Loom, [plain("a")], ["a", thing])
        self.refused(Stranger, Loom, [], ["a"])

    def test_one_stands_twice(self):
        self.refused(Twice, Loom, [plain("a"), plain("b")], ["a", "b", "a"])

    def test_which_comes_first(self):
        odd = plain("odd", [("join", "nobody")])
        self.refused(NoHandler, Loom, [odd, plain("a"), None], ["a", "a"])
        self.refused(NoHandler, Loom, [plain("a"), None, plain("a")], ["b"])
        self.refused(Twice, Loom, [plain("a"), plain("a"), None], ["b"])
        self.refused(Twice, Loom, [odd, plain("a"), plain("a")], ["b"])
        self.refused(Stranger, Loom, [odd, plain("a")], ["a", "a"])
        self.refused(Stranger, Loom, [plain("a")], ["b", "a", "a"])
        self.refused(Twice, Loom, [plain("a")], ["a", "a", "b"])

    def test_a_refused_loom_changes_nothing_of_what_is_handed_in(self):
        handlers, names = [plain("a", [("hush",)]), plain("a")], ["a", "b"]
        before = copy.deepcopy((handlers, names))
        self.refused(Twice, Loom, handlers, names)
        self.assertEqual((handlers, names), before)


class TestHandedIn(unittest.TestCase):
    def test_it_stays(self):
        handlers = [plain("a", [("now", "x"), ("leave", "b"), ("join", "c")], hears="go"), plain("b", once=True),
                    plain("c", [("soon", "y"), ("hush",)], hears="go", rank=4)]
        names = ["b", "a"]
        before = copy.deepcopy((handlers, names))
        loom = Loom(handlers, names)
        self.assertEqual((handlers, names), before)
        loom.send("go")
        loom.send("go")
        loom.run(100)
        self.assertEqual((handlers, names), before)

    def test_what_is_done_to_it_later_changes_nothing(self):
        deeds, more = [("now", "x"), ("soon", "y")], [("hush",)]
        handlers = [("a", 0, "go", False, deeds), ("b", 1, "", False, more)]
        names = ["a", "b"]
        still = Loom(copy.deepcopy(handlers), list(names))
        loom = Loom(handlers, names)
        deeds.append(("now", "z"))
        deeds[0] = ("wait", 9, "q")
        more.clear()
        handlers.reverse()
        handlers.append(plain("c"))
        names.clear()
        names.append("nobody")
        for one in (still, loom):
            one.send("go")
            one.run(5)
        deeds.clear()
        handlers.clear()
        names.append("b")
        for one in (still, loom):
            one.run(100)
        self.assertEqual(shown(loom), shown(still))
        self.assertEqual([event[0] for event in loom.events], ["go", "x", "y"])

    def test_two_looms_of_the_same_lists(self):
        handlers, names = [plain("a", [("leave", "a"), ("soon", "go")], hears="go")], ["a"]
        first, second = Loom(handlers, names), Loom(handlers, names)
        first.send("go")
        first.run(100)
        self.assertEqual(shown(second), (0, [], [], [], [], ["a"], True))


class TestSend(Case):
    def test_the_numbers(self):
        loom = loom_of(plain("a"))
        self.assertEqual([loom.send(word) for word in ("x", "x", "abcdefghijkl", "y")], [0, 1, 2, 3])
        self.assertEqual(loom.events, [(word, None, "wait", 0) for word in ("x", "x", "abcdefghijkl", "y")])
        self.assertEqual(loom.log, [("send", 0), ("send", 1), ("send", 2), ("send", 3)])
        self.assertEqual(loom.waiting(), [0, 1, 2, 3])
        self.assertIs(loom.idle(), False)

    def test_the_rows_of_a_sent_event(self):
        loom = ran(plain("a", hears="go"))
        self.assertEqual(loom.log, [("send", 0), ("begin", 0, 0), ("call", 0, "a"), ("end", 0)])

    def test_between_any_two_steps(self):
        loom = loom_of(plain("a", [("now", "x"), ("soon", "y"), ("wait", 0, "z")], hears="go"), words=["go"])
        sent = [0]
        for _ in range(13):
            self.assertTrue(loom.step())
            made = len(loom.events)
            sent.append(loom.send("q"))
            self.assertEqual(sent[-1], made)
            self.assertEqual(loom.log[-1], ("send", made))
            self.assertEqual(loom.events[made], ("q", None, "wait", 0))
        self.assertEqual(sent, [0, 1, 2, 4, 5, 6, 8, 10, 11, 12, 13, 14, 15, 16])
        loom.run(1000)
        order = [row[1] for row in loom.log if row[0] == "begin"]
        self.assertEqual(order, [0, 3, 7, 1, 2, 4, 5, 6, 8, 9, 10, 11, 12, 13, 14, 15, 16])

    def test_between_a_make_by_now_and_its_begin(self):
        loom = loom_of(plain("a", [("now", "x")], hears="go"), words=["go"])
        loom.run(3)
        self.assertEqual(loom.waiting(), [1])
        self.assertEqual(loom.send("q"), 2)
        self.assertEqual(loom.waiting(), [1, 2])
        loom.step()
        self.assertEqual(loom.log[-3:], [("make", 0, 1), ("send", 2), ("begin", 1, 0)])

    def test_due_at_the_time_of_the_loom(self):
        loom = loom_of(plain("a", [("wait", 7, "b"), ("wait", 9, "c")], hears="go"), words=["go"])
        loom.run(5)
        self.assertEqual(loom.time, 0)
        self.assertEqual(loom.send("s"), 3)
        loom.step()
        self.assertEqual(loom.log[-1], ("begin", 3, 0))
        loom.run(2)
        self.assertEqual(loom.log[-1], ("begin", 1, 7))
        self.assertEqual(loom.send("s"), 4)
        self.assertEqual(loom.events[4], ("s", None, "wait", 7))
        loom.run(2)
        self.assertEqual(loom.log[-1], ("begin", 4, 7))
        loom.run(100)
        self.assertEqual(loom.time, 9)
        loom.send("s")
        self.assertEqual(loom.events[5], ("s", None, "wait", 9))
        self.assertEqual(loom.run(100), 2)
        self.assertEqual(loom.time, 9)

    def test_what_is_no_word(self):
        deeds = [("now", "x"), ("soon", "y"), ("wait", 5, "z")]
        loom = loom_of(plain("a", deeds, hears="go"), words=["go"])
        while True:
            before = shown(loom)
            for thing in NO_WORDS:
                self.refused(NoWord, loom.send, thing)
            self.assertEqual(shown(loom), before)
            if not loom.step():
                break
        self.assertEqual(shown(loom), shown(ran(plain("a", deeds, hears="go"))))
        self.assertEqual(loom.send("go"), 4)


class TestStepAndRun(Case):
    handlers = [plain("a", [("now", "x"), ("soon", "y"), ("wait", 3, "z"), ("leave", "b")], hears="go"),
                plain("b", [("wait", 0, "w"), ("join", "c")], once=True),
                plain("c", [("cancel", "z"), ("hush",)], hears="y"), plain("d", [("leave", "c")], hears="w", rank=2)]

    def new(self):
        return loom_of(*self.handlers, names=["b", "a", "d"], words=["go", "y"])

    def whole(self):
        loom = self.new()
        return loom.run(1000)

    def test_step_is_true_then_false(self):
        loom = loom_of(plain("a"), words=["go"])
        self.assertEqual([loom.step() for _ in range(6)], [True, True, True, False, False, False])
        for answer in (loom.step(), loom_of(plain("a"), words=["go"]).step()):
            self.assertIs(type(answer), bool)

    def test_nothing_done_writes_no_row(self):
        loom = ran(plain("a"))
        before = shown(loom)
        self.assertIs(loom.step(), False)
        self.assertEqual(loom.run(5), 0)
        self.assertEqual(shown(loom), before)

    def test_each_step_writes_one_row(self):
        loom = self.new()
        rows = len(loom.log)
        while loom.step():
            rows += 1
            self.assertEqual(len(loom.log), rows)
        self.assertEqual(len(loom.log), rows)
        self.assertGreater(rows, 20)

    def test_no_steps(self):
        loom = self.new()
        before = shown(loom)
        self.assertEqual(loom.run(0), 0)
        self.assertEqual(shown(loom), before)

    def test_how_many_were_done(self):
        whole = self.whole()
        for most in range(whole + 4):
            loom = self.new()
            done = loom.run(most)
            self.assertIs(type(done), int)
            self.assertEqual(done, min(most, whole))
            self.assertEqual(len(loom.log), 2 + min(most, whole))
            self.assertEqual(loom.idle(), most >= whole)
        self.assertEqual(self.new().run(10 ** 6000), whole)

    def test_at_once_in_pieces_and_by_step(self):
        whole = self.whole()
        for most in range(whole + 2):
            by_run, by_step, by_twos = self.new(), self.new(), self.new()
            by_run.run(most)
            for _ in range(most):
                by_step.step()
            for _ in range(most // 2):
                by_twos.run(2)
            by_twos.run(most % 2)
            self.assertEqual(shown(by_run), shown(by_step))
            self.assertEqual(shown(by_run), shown(by_twos))

    def test_what_is_no_count(self):
        loom = self.new()
        while True:
            before = shown(loom)
            for thing in NO_COUNTS:
                self.refused(NoCount, loom.run, thing)
            self.assertEqual(shown(loom), before)
            if not loom.step():
                break
        self.refused(NoCount, loom.run, True)
        self.refused(NoCount, loom.run, -1)

    def test_the_same_always_comes_to_the_same(self):
        model = Model(self.handlers, ["b", "a", "d"])
        for word in ("go", "y"):
            model.send(word)
        while model.step():
            pass
        for _ in range(3):
            loom = self.new()
            loom.run(1000)
            self.assertEqual(shown(loom), shown(model))


class TestKinds(unittest.TestCase):
    def test_rows_and_events_are_of_just_the_told_parts(self):
        loom = ran(
            plain("a", [("now", "x"), ("soon", "y"), ("wait", 1, "z"), ("wait", 2, "z"), ("cancel", "z"),
                        ("cancel", "z"), ("join", "b"), ("leave", "b"), ("hush",)], hears="go"), plain("b"))
        lengths = {"send": 2, "begin": 3, "call": 3, "make": 3, "cancel": 3, "join": 3, "leave": 3, "hush": 2, "end": 2}
        self.assertEqual(set(row[0] for row in loom.log), set(lengths))
        for row in loom.log:
            self.assertIs(type(row), tuple)
            self.assertEqual(len(row), lengths[row[0]], row)
            self.assertIs(type(row[1]), int)
            kind = {"begin": int, "make": int, "cancel": tuple}.get(row[0], str)
            for part in row[2:]:
                self.assertIs(type(part), kind, row)
        self.assertEqual([row[2] for row in loom.log if row[0] == "cancel"], [(3, 4), ()])
        self.assertEqual(loom.events, [("go", None, "wait", 0), ("x", 0, "now", 0), ("y", 0, "soon", 0),
                                       ("z", 0, "wait", 1), ("z", 0, "wait", 2)])
        for event in loom.events:
            self.assertIs(type(event), tuple)
            self.assertIs(type(event[3]), int)
            self.assertIn(type(event[1]), (int, type(None)))
        self.assertIs(type(loom.events), list)
        self.assertIs(type(loom.log), list)


if __name__ == "__main__":
    unittest.main()
