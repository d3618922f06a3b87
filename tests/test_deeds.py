"""Points 6, 8, 9, 12, 13 and 14: the seven deeds, the roads, the time and the rows."""

import unittest

from looms import begins, calls, loom_of, plain, ran, rows


class TestNow(unittest.TestCase):
    def test_the_rows(self):
        loom = ran(plain("a", [("now", "x"), ("now", "y")], hears="go"), plain("b", hears="x"))
        self.assertEqual(loom.log, [
            ("send", 0), ("begin", 0, 0), ("call", 0, "a"), ("make", 0, 1), ("begin", 1, 0), ("call", 1, "b"),
            ("end", 1), ("make", 0, 2), ("begin", 2, 0), ("end", 2), ("end", 0)])
        self.assertEqual(loom.events, [("go", None, "wait", 0), ("x", 0, "now", 0), ("y", 0, "now", 0)])

    def test_it_begins_in_the_next_step_ahead_of_all_else(self):
        loom = loom_of(plain("a", [("soon", "s"), ("wait", 0, "w"), ("now", "x")], hears="go"), words=["go", "go"])
        loom.run(5)
        self.assertEqual(loom.log[-1], ("make", 0, 4))
        self.assertEqual(loom.waiting(), [4, 2, 1, 3])
        self.assertEqual(loom.around(), [0])
        loom.step()
        self.assertEqual(loom.log[-1], ("begin", 4, 0))
        self.assertEqual(loom.waiting(), [2, 1, 3])
        self.assertEqual(loom.around(), [0, 4])

    def test_several_levels_deep(self):
        loom = ran(plain("a", [("now", "x"), ("now", "z")], hears="go"),
                   plain("b", [("now", "y"), ("soon", "s")], hears="x"),
                   plain("c", [("now", "z"), ("hush",)], hears="y"), plain("d", hears="y", rank=1),
                   plain("e", hears="go", rank=1))
        self.assertEqual(loom.log, [
            ("send", 0), ("begin", 0, 0), ("call", 0, "a"),
            ("make", 0, 1), ("begin", 1, 0), ("call", 1, "b"),
            ("make", 1, 2), ("begin", 2, 0), ("call", 2, "c"),
            ("make", 2, 3), ("begin", 3, 0), ("end", 3), ("hush", 2), ("end", 2),
            ("make", 1, 4), ("end", 1),
            ("make", 0, 5), ("begin", 5, 0), ("end", 5),
            ("call", 0, "e"), ("end", 0), ("begin", 4, 0), ("end", 4)])
        self.assertEqual([event[1] for event in loom.events], [None, 0, 1, 2, 1, 0])

    def test_a_handler_that_makes_the_word_that_it_hears(self):
        loom = loom_of(plain("a", [("now", "x"), ("hush",)], hears="x"), words=["x"])
        for depth in range(60):
            self.assertEqual(loom.run(3), 3)
            self.assertEqual(loom.log[-3:], [("begin", depth, 0), ("call", depth, "a"), ("make", depth, depth + 1)])
            self.assertEqual(loom.around(), list(range(depth + 1)))
            self.assertEqual(loom.waiting(), [depth + 1])
            self.assertEqual(loom.events[-1], ("x", depth, "now", 0))
            self.assertIs(loom.idle(), False)

    def test_nested_to_an_end(self):
        loom = ran(plain("a", [("now", "x"), ("soon", "y")], hears="x", once=True),
                   plain("b", [("now", "x"), ("wait", 4, "z")], hears="x", once=True, rank=1), words=["x"])
        self.assertEqual(loom.log, [
            ("send", 0), ("begin", 0, 0), ("call", 0, "a"), ("make", 0, 1), ("begin", 1, 0), ("call", 1, "b"),
            ("make", 1, 2), ("begin", 2, 0), ("end", 2), ("make", 1, 3), ("end", 1), ("make", 0, 4), ("end", 0),
            ("begin", 4, 0), ("end", 4), ("begin", 3, 4), ("end", 3)])


class TestSoon(unittest.TestCase):
    def test_the_rows(self):
        loom = ran(plain("a", [("soon", "x")], hears="go"), plain("b", hears="x"))
        self.assertEqual(loom.log, [("send", 0), ("begin", 0, 0), ("call", 0, "a"), ("make", 0, 1), ("end", 0),
                                    ("begin", 1, 0), ("call", 1, "b"), ("end", 1)])
        self.assertEqual(loom.events[1], ("x", 0, "soon", 0))

    def test_ahead_of_all_that_waits_by_wait(self):
        loom = ran(plain("a", [("wait", 0, "w"), ("soon", "x"), ("soon", "y")], hears="go"), words=["go", "late"])
        self.assertEqual([word for word, _ in begins(loom)], ["go", "x", "y", "late", "w"])

    def test_the_one_made_first(self):
        loom = ran(plain("a", [("soon", "x"), ("soon", "y")], hears="go"), plain("b", [("soon", "z")], hears="x"),
                   plain("c", [("soon", "q")], hears="y"))
        self.assertEqual([word for word, _ in begins(loom)], ["go", "x", "y", "z", "q"])

    def test_it_does_not_begin_while_an_event_is_open(self):
        loom = ran(plain("a", [("soon", "x"), ("now", "y"), ("now", "y")], hears="go"))
        self.assertEqual([row[1] for row in rows(loom, "begin", "end")], [0, 2, 2, 3, 3, 0, 1, 1])

    def test_made_in_a_later_time(self):
        loom = ran(plain("a", [("wait", 8, "x")], hears="go"), plain("b", [("soon", "y")], hears="x"))
        self.assertEqual(loom.events[2], ("y", 1, "soon", 8))
        self.assertEqual(begins(loom), [("go", 0), ("x", 8), ("y", 8)])


class TestWait(unittest.TestCase):
    def test_the_rows(self):
        loom = ran(plain("a", [("wait", 6, "x")], hears="go"), plain("b", hears="x"))
        self.assertEqual(loom.log, [("send", 0), ("begin", 0, 0), ("call", 0, "a"), ("make", 0, 1), ("end", 0),
                                    ("begin", 1, 6), ("call", 1, "b"), ("end", 1)])
        self.assertEqual(loom.events[1], ("x", 0, "wait", 6))
        self.assertEqual(loom.time, 6)

    def test_the_one_due_first_and_of_like_dues_the_one_made_first(self):
        deeds = [("wait", 9, "a"), ("wait", 3, "b"), ("wait", 9, "c"), ("wait", 0, "d"), ("wait", 3, "e")]
        loom = ran(plain("h", deeds, hears="go"), words=["go", "s"])
        self.assertEqual(begins(loom), [("go", 0), ("s", 0), ("d", 0), ("b", 3), ("e", 3), ("a", 9), ("c", 9)])

    def test_like_dues_that_were_made_at_other_times(self):
        loom = ran(plain("a", [("wait", 10, "x"), ("wait", 4, "y")], hears="go"),
                   plain("b", [("wait", 6, "z"), ("wait", 5, "q")], hears="y"))
        self.assertEqual(begins(loom), [("go", 0), ("y", 4), ("q", 9), ("x", 10), ("z", 10)])
        self.assertEqual(loom.events[3:], [("z", 2, "wait", 10), ("q", 2, "wait", 9)])

    def test_ticks_of_0(self):
        loom = ran(plain("a", [("wait", 0, "x"), ("soon", "y")], hears="go"))
        self.assertEqual(loom.events[1], ("x", 0, "wait", 0))
        self.assertEqual(begins(loom), [("go", 0), ("y", 0), ("x", 0)])
        self.assertEqual(loom.time, 0)

    def test_ticks_of_1000000000(self):
        loom = loom_of(plain("a", [("wait", 1000000000, "go")], hears="go"), words=["go"])
        loom.run(4 * 7)
        self.assertEqual(begins(loom), [("go", at * 1000000000) for at in range(7)])
        self.assertEqual(loom.time, 6000000000)
        self.assertEqual(loom.events[-1], ("go", 6, "wait", 7000000000))

    def test_the_time_becomes_the_due_as_the_event_begins(self):
        loom = loom_of(plain("a", [("wait", 5, "x"), ("wait", 5, "y")], hears="go"), words=["go"])
        times = []
        while loom.step():
            times.append(loom.time)
        self.assertEqual(times, [0, 0, 0, 0, 0, 5, 5, 5, 5])

    def test_the_time_never_falls(self):
        loom = loom_of(plain("a", [("wait", 5, "x"), ("wait", 2, "y"), ("soon", "z")], hears="go"), words=["go"])
        last, sent = 0, 0
        while loom.step():
            self.assertGreaterEqual(loom.time, last)
            last = loom.time
            if last in (2, 5) and sent < 4:
                loom.send("go" if sent == 1 else "s")
                sent += 1
        self.assertEqual(loom.time, 7)
        for number, event in enumerate(loom.events):
            row = [row for row in rows(loom, "begin") if row[1] == number][0]
            self.assertGreaterEqual(row[2], event[3])


class TestCancel(unittest.TestCase):
    def test_by_both_roads_and_nothing_else(self):
        deeds = [("wait", 5, "x"), ("soon", "y"), ("soon", "x"), ("wait", 5, "y"), ("wait", 0, "x"), ("soon", "xx"),
                 ("cancel", "x")]
        loom = ran(plain("a", deeds, hears="go"), words=["go", "x", "y"])
        self.assertEqual(rows(loom, "cancel"), [("cancel", 0, (1, 3, 5, 7))])
        self.assertEqual([row[1] for row in rows(loom, "begin")], [0, 4, 8, 2, 6])
        self.assertEqual([row[1] for row in rows(loom, "end")], [0, 4, 8, 2, 6])
        self.assertEqual(loom.time, 5)

    def test_the_numbers_rise(self):
        deeds = [("wait", 9, "x"), ("wait", 1, "x"), ("soon", "x"), ("wait", 5, "x"), ("soon", "x"), ("cancel", "x")]
        loom = ran(plain("a", deeds, hears="go"), words=["x", "go"])
        self.assertEqual(rows(loom, "cancel"), [("cancel", 1, (2, 3, 4, 5, 6))])
        loom = ran(plain("a", deeds, hears="go"), words=["go", "x"])
        self.assertEqual(rows(loom, "cancel"), [("cancel", 0, (1, 2, 3, 4, 5, 6))])

    def test_none_of_the_word(self):
        loom = ran(plain("a", [("cancel", "x"), ("soon", "y"), ("cancel", "go")], hears="go"))
        self.assertEqual(loom.log, [("send", 0), ("begin", 0, 0), ("call", 0, "a"), ("cancel", 0, ()), ("make", 0, 1),
                                    ("cancel", 0, ()), ("end", 0), ("begin", 1, 0), ("end", 1)])

    def test_one_that_is_cancelled_is_not_cancelled_again(self):
        loom = ran(plain("a", [("soon", "x"), ("cancel", "x"), ("cancel", "x"), ("soon", "x")], hears="go"))
        self.assertEqual(rows(loom, "cancel"), [("cancel", 0, (1,)), ("cancel", 0, ())])
        self.assertEqual([row[1] for row in rows(loom, "begin")], [0, 2])

    def test_the_open_ones_go_on(self):
        loom = ran(plain("a", [("now", "x"), ("now", "y")], hears="go"), plain("b", [("cancel", "go")], hears="x"),
                   plain("c", [("cancel", "y"), ("cancel", "x")], hears="y"))
        self.assertEqual([row[2] for row in rows(loom, "cancel")], [(), (), ()])
        self.assertEqual([row[1] for row in rows(loom, "end")], [1, 2, 0])

    def test_the_number_is_that_of_the_innermost(self):
        loom = ran(plain("a", [("wait", 2, "z"), ("now", "x"), ("cancel", "q")], hears="go"),
                   plain("b", [("cancel", "z")], hears="x"))
        self.assertEqual(rows(loom, "cancel"), [("cancel", 2, (1,)), ("cancel", 0, ())])
        self.assertEqual(loom.waiting(), [])
        self.assertEqual(loom.time, 0)

    def test_what_was_cancelled_no_longer_waits(self):
        loom = loom_of(plain("a", [("soon", "x"), ("wait", 3, "x"), ("cancel", "x")], hears="go"), words=["go"])
        loom.run(4)
        self.assertEqual(loom.waiting(), [1, 2])
        loom.step()
        self.assertEqual(loom.waiting(), [])
        self.assertIs(loom.idle(), False)
        loom.step()
        self.assertIs(loom.idle(), True)
        self.assertIs(loom.step(), False)
        self.assertEqual(loom.time, 0)


class TestJoinAndLeave(unittest.TestCase):
    def test_join_behind_all_others(self):
        loom = ran(plain("a", [("join", "d"), ("join", "c")], hears="go"), plain("b", hears="go"), plain("c"),
                   plain("d"), names=["b", "a"])
        self.assertEqual(loom.standing(), ["b", "a", "d", "c"])
        self.assertEqual(rows(loom, "join"), [("join", 0, "d"), ("join", 0, "c")])

    def test_join_of_one_that_stands(self):
        loom = ran(plain("a", [("join", "a"), ("join", "b")], hears="go"), plain("b", hears="go"), names=["a", "b"])
        self.assertEqual(loom.standing(), ["a", "b"])
        self.assertEqual(loom.log, [("send", 0), ("begin", 0, 0), ("call", 0, "a"), ("join", 0, "a"), ("join", 0, "b"),
                                    ("call", 0, "b"), ("end", 0)])

    def test_leave(self):
        loom = ran(plain("a", [("leave", "b"), ("leave", "a")], hears="go"), plain("b"), plain("c"))
        self.assertEqual(loom.standing(), ["c"])
        self.assertEqual(rows(loom, "leave"), [("leave", 0, "b"), ("leave", 0, "a")])

    def test_leave_of_one_that_does_not_stand(self):
        loom = ran(plain("a", [("leave", "b"), ("leave", "b")], hears="go"), plain("b"), plain("c"), names=["c", "a"])
        self.assertEqual(loom.standing(), ["c", "a"])
        self.assertEqual(rows(loom, "leave"), [("leave", 0, "b"), ("leave", 0, "b")])

    def test_who_goes_and_comes_again_stands_last(self):
        loom = ran(plain("a", [("leave", "a"), ("join", "a")], hears="go"), plain("b"), plain("c"))
        self.assertEqual(loom.standing(), ["b", "c", "a"])

    def test_the_number_is_that_of_the_innermost(self):
        loom = ran(plain("a", [("now", "x"), ("leave", "b"), ("hush",)], hears="go"),
                   plain("b", [("join", "c"), ("leave", "c"), ("hush",)], hears="x"), plain("c", hears="y"))
        self.assertEqual(rows(loom, "join", "leave", "hush"), [
            ("join", 1, "c"), ("leave", 1, "c"), ("hush", 1), ("leave", 0, "b"), ("hush", 0)])


class TestEachDeed(unittest.TestCase):
    deeds = [("now", "x"), ("hush",), ("soon", "x"), ("join", "b"), ("wait", 2, "x"), ("leave", "b"), ("cancel", "x")]

    def test_all_seven_in_one_handler(self):
        loom = ran(plain("a", self.deeds, hears="go"), plain("b"), names=["a"])
        self.assertEqual(loom.log, [
            ("send", 0), ("begin", 0, 0), ("call", 0, "a"), ("make", 0, 1), ("begin", 1, 0), ("end", 1), ("hush", 0),
            ("make", 0, 2), ("join", 0, "b"), ("make", 0, 3), ("leave", 0, "b"), ("cancel", 0, (2, 3)), ("end", 0)])
        self.assertEqual(loom.events[1:], [("x", 0, "now", 0), ("x", 0, "soon", 0), ("x", 0, "wait", 2)])

    def test_words_that_are_also_words_of_the_document(self):
        loom = ran(plain("now", [("now", "now"), ("soon", "hush"), ("join", "soon")], hears="wait"),
                   plain("soon", [("leave", "now")], hears="now"), words=["wait", "begin"])
        self.assertEqual(calls(loom), [(0, "now"), (2, "soon")])
        self.assertEqual(loom.standing(), ["soon"])

    def test_no_deeds(self):
        self.assertEqual(ran(plain("a")).log, [("send", 0), ("begin", 0, 0), ("call", 0, "a"), ("end", 0)])


class TestBeginningsAndEndings(unittest.TestCase):
    def test_each_event_once(self):
        loom = ran(plain("a", [("now", "x"), ("soon", "y"), ("wait", 4, "z"), ("soon", "q")], hears="go"),
                   plain("b", [("cancel", "q"), ("now", "z")], hears="y"), plain("c", [("soon", "y")], hears="z", once=True),
                   words=["go", "y", "go"])
        began = [row[1] for row in rows(loom, "begin")]
        ended = [row[1] for row in rows(loom, "end")]
        gone = [number for row in rows(loom, "cancel") for number in row[2]]
        self.assertEqual(sorted(began + gone), list(range(len(loom.events))))
        self.assertEqual(sorted(began), sorted(ended))
        self.assertGreater(len(gone), 0)
        made = [row[-1] for row in rows(loom, "send", "make")]
        self.assertEqual(made, list(range(len(loom.events))))


if __name__ == "__main__":
    unittest.main()
