"""Points 10 to 12: the settled handlers of an event, who is passed over, who is for once, hush."""

import unittest

from looms import calls, loom_of, plain, ran, rows


class TestOrder(unittest.TestCase):
    def test_lesser_ranks_first(self):
        loom = ran(plain("a", rank=5), plain("b", rank=-10 ** 30), plain("c", rank=10 ** 30), plain("d"))
        self.assertEqual(calls(loom), [(0, "b"), (0, "d"), (0, "a"), (0, "c")])

    def test_of_like_ranks_as_they_came_to_stand(self):
        four = [plain(name, rank=7) for name in ("a", "b", "c", "d")]
        loom = ran(*four, names=["c", "a", "d", "b"])
        self.assertEqual([name for _, name in calls(loom)], ["c", "a", "d", "b"])

    def test_who_came_to_stand_again_comes_last_of_like_ranks(self):
        loom = ran(plain("a"), plain("b"), plain("c"), plain("d", [("leave", "a"), ("join", "a")], hears="go", rank=1),
                   plain("e", rank=-1, hears="x"), words=["go", "x"])
        self.assertEqual([name for number, name in calls(loom) if number == 1], ["e", "b", "c", "a"])

    def test_who_hears_the_word(self):
        loom = ran(plain("a", hears="x"), plain("b"), plain("c", hears="y"), plain("d", hears="xx"),
                   words=["x", "y", "z"])
        self.assertEqual(calls(loom), [(0, "a"), (0, "b"), (1, "b"), (1, "c"), (2, "b")])

    def test_who_does_not_stand_is_not_called(self):
        self.assertEqual(calls(ran(plain("a"), plain("b"), names=["b"])), [(0, "b")])
        self.assertEqual(calls(ran(plain("a"), plain("b"), names=[])), [])

    def test_one_hears_every_event_within_the_others(self):
        loom = ran(plain("a", [("now", "x")], hears="go"), plain("ear", rank=-1))
        self.assertEqual(calls(loom), [(0, "ear"), (0, "a"), (1, "ear")])


class TestPassedOver(unittest.TestCase):
    def test_sent_away_ahead_of_its_turn(self):
        loom = ran(plain("a", [("leave", "b")], hears="go"), plain("b"), plain("c"))
        self.assertEqual(loom.log, [("send", 0), ("begin", 0, 0), ("call", 0, "a"), ("leave", 0, "b"), ("call", 0, "c"),
                                    ("end", 0)])

    def test_all_that_are_to_come_are_sent_away(self):
        loom = ran(plain("a", [("leave", "b"), ("leave", "c"), ("leave", "d")], hears="go"), plain("b"), plain("c"),
                   plain("d"), words=["go", "x"])
        self.assertEqual(calls(loom), [(0, "a")])
        self.assertEqual([row[1] for row in rows(loom, "end")], [0, 1])

    def test_also_if_it_stands_again(self):
        loom = ran(plain("a", [("leave", "b"), ("join", "b")], hears="go"), plain("b"), plain("c"), words=["go", "x"])
        self.assertEqual(calls(loom), [(0, "a"), (0, "c"), (1, "c"), (1, "b")])

    def test_also_if_it_went_and_came_several_times(self):
        deeds = [("leave", "b"), ("join", "b")] * 3
        loom = ran(plain("a", deeds, hears="go"), plain("b"), words=["go", "x"])
        self.assertEqual(calls(loom), [(0, "a"), (1, "b")])

    def test_one_that_stands_and_joins_is_not_passed_over(self):
        loom = ran(plain("a", [("join", "b"), ("leave", "c"), ("join", "c")], hears="go"), plain("b"), plain("c"))
        self.assertEqual(calls(loom), [(0, "a"), (0, "b")])

    def test_within_an_inner_event(self):
        loom = ran(plain("a", [("now", "x")], hears="go"), plain("b", hears="go", rank=1),
                   plain("c", [("leave", "b"), ("join", "b")], hears="x"), plain("d", hears="go", rank=2),
                   words=["go", "go"])
        self.assertEqual(calls(loom), [(0, "a"), (2, "c"), (0, "d"), (1, "a"), (3, "c"), (1, "d")])
        self.assertEqual(loom.standing(), ["a", "c", "d", "b"])

    def test_settled_for_several_open_events(self):
        loom = ran(plain("a", [("now", "x")], hears="go"), plain("b", [("now", "y")], hears="x"),
                   plain("c", [("leave", "all"), ("join", "all")], hears="y"), plain("all", rank=9), words=["go", "z"])
        self.assertEqual(calls(loom), [(0, "a"), (2, "b"), (3, "c"), (1, "all")])
        self.assertEqual([row[1] for row in rows(loom, "end")], [3, 2, 0, 1])

    def test_called_for_the_inner_one_and_for_the_outer_one(self):
        loom = ran(plain("a", [("now", "x")], hears="go"), plain("all", rank=9))
        self.assertEqual(calls(loom), [(0, "a"), (1, "all"), (0, "all")])

    def test_it_stands_again_for_an_inner_event(self):
        loom = ran(plain("a", [("leave", "b"), ("join", "b"), ("now", "x")], hears="go"), plain("b", rank=1))
        self.assertEqual(calls(loom), [(0, "a"), (1, "b")])

    def test_sent_away_in_an_inner_event_after_its_turn_there(self):
        loom = ran(plain("a", [("now", "x")], hears="go"), plain("b", [("leave", "b"), ("soon", "y")], rank=1))
        self.assertEqual(loom.log[2:], [
            ("call", 0, "a"), ("make", 0, 1), ("begin", 1, 0), ("call", 1, "b"), ("leave", 1, "b"), ("make", 1, 2),
            ("end", 1), ("end", 0), ("begin", 2, 0), ("end", 2)])

    def test_who_comes_to_stand_later_is_not_called_for_this_event(self):
        loom = ran(plain("a", [("join", "b"), ("join", "c")], hears="go"), plain("b", rank=-5), plain("c", rank=5),
                   names=["a"], words=["go", "x"])
        self.assertEqual(calls(loom), [(0, "a"), (1, "b"), (1, "c")])

    def test_who_joins_within_an_inner_event_is_not_called_for_the_outer_one(self):
        loom = ran(plain("a", [("now", "x"), ("now", "y")], hears="go"), plain("b", [("join", "c")], hears="x"),
                   plain("c", rank=5), names=["a", "b"])
        self.assertEqual(calls(loom), [(0, "a"), (1, "b"), (2, "c")])


class TestWhoSendsItselfAway(unittest.TestCase):
    def test_it_goes_on_with_its_deeds(self):
        loom = ran(plain("a", [("leave", "a"), ("soon", "x"), ("now", "y"), ("cancel", "x")], hears="go"),
                   words=["go", "go"])
        self.assertEqual(loom.log[2:], [
            ("begin", 0, 0), ("call", 0, "a"), ("leave", 0, "a"), ("make", 0, 2), ("make", 0, 3), ("begin", 3, 0),
            ("end", 3), ("cancel", 0, (2,)), ("end", 0), ("begin", 1, 0), ("end", 1)])

    def test_it_is_not_called_again_for_the_event(self):
        loom = ran(plain("a", [("leave", "a"), ("join", "a")]), words=["go", "x"])
        self.assertEqual(calls(loom), [(0, "a"), (1, "a")])

    def test_who_is_sent_away_by_an_inner_event_goes_on_too(self):
        loom = ran(plain("a", [("now", "x"), ("soon", "y"), ("soon", "z")], hears="go"),
                   plain("b", [("leave", "a")], hears="x"))
        self.assertEqual([event[0] for event in loom.events], ["go", "x", "y", "z"])
        self.assertEqual(loom.standing(), ["b"])


class TestForOnce(unittest.TestCase):
    def test_called_once_and_its_deeds_are_done(self):
        loom = ran(plain("a", [("soon", "x"), ("now", "y"), ("hush",)], hears="go", once=True), plain("b", hears="go"),
                   words=["go", "go"])
        self.assertEqual(loom.log[2:], [
            ("begin", 0, 0), ("call", 0, "a"), ("make", 0, 2), ("make", 0, 3), ("begin", 3, 0), ("end", 3), ("hush", 0),
            ("end", 0), ("begin", 2, 0), ("end", 2), ("begin", 1, 0), ("call", 1, "b"), ("end", 1)])
        self.assertEqual(loom.standing(), ["b"])

    def test_sent_away_as_it_is_called(self):
        loom = loom_of(plain("a", [("now", "go")], once=True), plain("b"), words=["go"])
        loom.step()
        self.assertEqual(loom.standing(), ["a", "b"])
        loom.step()
        self.assertEqual(loom.log[-1], ("call", 0, "a"))
        self.assertEqual(loom.standing(), ["b"])
        loom.run(100)
        self.assertEqual(calls(loom), [(0, "a"), (1, "b"), (0, "b")])

    def test_not_for_once_stays(self):
        loom = ran(plain("a"), words=["go", "go", "x"])
        self.assertEqual(calls(loom), [(0, "a"), (1, "a"), (2, "a")])
        self.assertEqual(loom.standing(), ["a"])

    def test_called_for_the_inner_one_and_passed_over_for_the_outer_one(self):
        loom = ran(plain("a", [("now", "x")], hears="go"), plain("b", rank=1, once=True), plain("c", rank=2))
        self.assertEqual(calls(loom), [(0, "a"), (1, "b"), (1, "c"), (0, "c")])

    def test_it_joins_itself_again(self):
        loom = ran(plain("a", [("join", "a")], once=True), plain("b"), words=["go", "x", "y"])
        self.assertEqual([name for _, name in calls(loom)], ["a", "b", "b", "a", "b", "a"])
        self.assertEqual(loom.standing(), ["b", "a"])

    def test_it_joins_itself_again_within_an_inner_event(self):
        loom = ran(plain("a", [("now", "x")], hears="go"), plain("b", [("join", "b")], rank=1, once=True),
                   words=["go", "z"])
        self.assertEqual(calls(loom), [(0, "a"), (2, "b"), (1, "b")])
        self.assertEqual(loom.standing(), ["a", "b"])

    def test_sent_away_ahead_of_its_turn(self):
        loom = ran(plain("a", [("leave", "b")], hears="go"), plain("b", once=True), words=["go", "x"])
        self.assertEqual(calls(loom), [(0, "a")])

    def test_leaving_and_joining_rows_are_of_deeds_alone(self):
        loom = ran(plain("a", [("leave", "a")], once=True), words=["go", "go"])
        self.assertEqual(rows(loom, "leave", "join"), [("leave", 0, "a")])


class TestHush(unittest.TestCase):
    def test_all_that_are_still_to_come(self):
        loom = ran(plain("a"), plain("b", [("soon", "x"), ("hush",), ("soon", "y")], hears="go"), plain("c"),
                   plain("d", rank=1))
        self.assertEqual(loom.log[:8], [
            ("send", 0), ("begin", 0, 0), ("call", 0, "a"), ("call", 0, "b"), ("make", 0, 1), ("hush", 0),
            ("make", 0, 2), ("end", 0)])
        self.assertEqual(loom.standing(), ["a", "b", "c", "d"])
        self.assertEqual([name for number, name in calls(loom) if number == 1], ["a", "c", "d"])

    def test_nobody_still_to_come(self):
        loom = ran(plain("a", [("hush",), ("hush",)]))
        self.assertEqual(loom.log[2:], [("call", 0, "a"), ("hush", 0), ("hush", 0), ("end", 0)])

    def test_only_for_its_own_event(self):
        loom = ran(plain("a", [("now", "x")], hears="go"), plain("b", [("hush",)], hears="x"), plain("c", rank=1))
        self.assertEqual(calls(loom), [(0, "a"), (1, "b"), (0, "c")])

    def test_an_outer_hush_lets_the_inner_ones_be(self):
        loom = ran(plain("a", [("hush",), ("now", "x")], hears="go"), plain("b", rank=1))
        self.assertEqual(calls(loom), [(0, "a"), (1, "b")])

    def test_who_was_hushed_still_stands_for_once(self):
        loom = ran(plain("a", [("hush",)], hears="go"), plain("b", once=True), words=["go", "x", "x"])
        self.assertEqual(calls(loom), [(0, "a"), (1, "b")])


if __name__ == "__main__":
    unittest.main()
