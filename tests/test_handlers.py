"""Points 3 to 5, the first sentence of point 10, and point 1 as far as it reaches here."""

import copy
import unittest

from things import NO_WORDS, ODD_THINGS, Angry, Equal

from eventloom import handlers
from eventloom.errors import LoomError, NoHandler, Stranger, Twice
from eventloom.handlers import hearers, is_deed, is_handler, need_handlers, need_names

SMALL = "abcdefghijklmnopqrstuvwxyz"

RIGHT_DEEDS = [
    ("now", "a"), ("soon", "abcdefghijkl"), ("cancel", "zz"), ("join", "other"), ("leave", "z"), ("hush",),
    ("wait", 0, "a"), ("wait", 1, "b"), ("wait", 999999999, "c"), ("wait", 1000000000, "abcdefghijkl"),
]


def name_at(at):
    """Another name for each number below 676."""
    return "h" + SMALL[at // 26] + SMALL[at % 26]


def plain(name, rank=0, hears="", deeds=()):
    return (name, rank, hears, False, deeds)


def many(count):
    return [plain(name_at(at)) for at in range(count)]


class Case(unittest.TestCase):
    def refused(self, error, call, *told):
        """The call is refused with just this error."""
        with self.assertRaises(LoomError) as caught:
            call(*told)
        self.assertIs(caught.exception.__class__, error)


class TestNumbers(unittest.TestCase):
    def test_most(self):
        self.assertEqual(handlers.MOST_HANDLERS, 40)
        self.assertEqual(handlers.MOST_DEEDS, 30)
        self.assertEqual(handlers.MOST_TICKS, 1000000000)


class TestDeed(unittest.TestCase):
    def test_right_ones(self):
        for deed in RIGHT_DEEDS:
            self.assertIs(is_deed(deed), True, deed)

    def test_a_part_more_or_less(self):
        for deed in RIGHT_DEEDS:
            for more in ("a", 1, None, True, ()):
                self.assertIs(is_deed(deed + (more,)), False, deed)
                self.assertIs(is_deed((more,) + deed), False, deed)
            for at in range(len(deed)):
                self.assertIs(is_deed(deed[:at] + deed[at + 1:]), False, deed)

    def test_a_list_in_place_of_the_tuple(self):
        for deed in RIGHT_DEEDS:
            self.assertIs(is_deed(list(deed)), False, deed)

    def test_a_wrong_first_part(self):
        firsts = ODD_THINGS + [0, 7, "", "Now", "NOW", "now ", " now", "never", "a", "hushed", "waits", "no",
                               "begin", "send", "nowsoon", (), ("now",), b"now", ["now"]]
        for deed in RIGHT_DEEDS:
            for at, first in enumerate(firsts):
                self.assertIs(is_deed((first,) + deed[1:]), False, (deed, at))

    def test_a_kind_with_the_parts_of_another(self):
        for kind in ("now", "soon", "cancel", "join", "leave", "hush"):
            self.assertIs(is_deed((kind, 1, "a")), False, kind)
            self.assertIs(is_deed((kind, "a")), kind != "hush", kind)
            self.assertIs(is_deed((kind,)), kind == "hush", kind)
        self.assertIs(is_deed(("wait",)), False)
        self.assertIs(is_deed(("wait", "a")), False)
        self.assertIs(is_deed(("wait", "a", 1)), False)
        self.assertIs(is_deed(("wait", 1)), False)

    def test_a_wrong_word(self):
        for kind in ("now", "soon", "cancel", "join", "leave"):
            for at, thing in enumerate(NO_WORDS):
                self.assertIs(is_deed((kind, thing)), False, (kind, at))
        for at, thing in enumerate(NO_WORDS):
            self.assertIs(is_deed(("wait", 5, thing)), False, at)

    def test_wrong_ticks(self):
        wrong = ODD_THINGS + [-1, -2, -1000000000, 1000000001, 10 ** 6000, -10 ** 6000, "", "0", "5", "a", (), (1,),
                              0.0, 5.0]
        for at, ticks in enumerate(wrong):
            self.assertIs(is_deed(("wait", ticks, "a")), False, at)

    def test_things_that_are_no_tuples(self):
        for at, thing in enumerate(ODD_THINGS + ["hush", "now", "", 0, 3, ()]):
            self.assertIs(is_deed(thing), False, at)


class TestHandler(unittest.TestCase):
    right = ("name", 3, "word", True, [("now", "a")])

    def with_part(self, at, part):
        return self.right[:at] + (part,) + self.right[at + 1:]

    def all_right(self, at, parts):
        for part in parts:
            self.assertIs(is_handler(self.with_part(at, part)), True)

    def all_wrong(self, at, parts):
        for place, part in enumerate(parts):
            self.assertIs(is_handler(self.with_part(at, part)), False, (at, place))

    def test_names(self):
        self.all_right(0, ["a", "z", "abcdefghijkl", "now", "hush"])
        self.all_wrong(0, NO_WORDS)

    def test_ranks(self):
        self.all_right(1, [0, 1, -1, 41, 2 ** 64, -2 ** 64, 10 ** 6000, -10 ** 6000])
        self.all_wrong(1, ODD_THINGS + ["", "0", "1", "a", (), (1,), 0.0])

    def test_what_it_hears(self):
        self.all_right(2, ["", "a", "abcdefghijkl"])
        self.all_wrong(2, [thing for thing in NO_WORDS if not (isinstance(thing, str) and len(thing) == 0)])

    def test_once(self):
        self.all_right(3, [True, False])
        others = [thing for thing in ODD_THINGS if not isinstance(thing, bool)]
        self.all_wrong(3, others + [0, 1, -1, 2, "", "True", "a", (), (True,), 0.0, 1.0])

    def test_deeds(self):
        self.all_right(4, [[], (), RIGHT_DEEDS, tuple(RIGHT_DEEDS)])
        others = [thing for thing in ODD_THINGS if not (isinstance(thing, list) and len(thing) == 0)]
        self.all_wrong(4, others + ["", "now", 0, ("now", "a"), ("hush",), ["hush"], [[]], [()]])

    def test_how_many_deeds(self):
        for kind in (list, tuple):
            for count in range(35):
                deeds = kind([("hush",)] * count)
                self.assertIs(is_handler(self.with_part(4, deeds)), count <= 30, count)

    def test_one_wrong_deed_anywhere(self):
        for wrong in (["hush"], ("hush", "a"), ("now",), ("wait", -1, "a"), None, (Equal(), "a"), Angry()):
            for at in range(30):
                deeds = [("hush",)] * 30
                deeds[at] = wrong
                self.assertIs(is_handler(self.with_part(4, deeds)), False, at)
                self.assertIs(is_handler(self.with_part(4, tuple(deeds))), False, at)

    def test_a_part_more_or_less(self):
        self.assertIs(is_handler(self.right), True)
        for more in (None, "", "a", [], True, 0):
            self.assertIs(is_handler(self.right + (more,)), False)
            self.assertIs(is_handler((more,) + self.right), False)
        for at in range(5):
            self.assertIs(is_handler(self.right[:at] + self.right[at + 1:]), False)
        self.assertIs(is_handler(()), False)

    def test_things_that_are_no_tuples(self):
        for at, thing in enumerate(ODD_THINGS + [list(self.right), "abcde", "a", 0, 5]):
            self.assertIs(is_handler(thing), False, at)

    def test_nothing_is_changed(self):
        before = copy.deepcopy(self.right)
        is_handler(self.right)
        self.assertEqual(self.right, before)


class TestNeedHandlers(Case):
    def test_how_many(self):
        for count in (0, 1, 2, 39, 40):
            self.assertEqual(need_handlers(many(count)), many(count))
        for count in (41, 42, 60):
            self.refused(NoHandler, need_handlers, many(count))

    def test_the_kinds_of_what_comes_back(self):
        given = [("a", 5, "", True, []), ("b", -5, "w", False, list(RIGHT_DEEDS)), ("other", 0, "", False, ()),
                 ("z", 0, "", False, tuple(RIGHT_DEEDS))]
        rows = need_handlers(given)
        self.assertIs(type(rows), list)
        self.assertEqual(rows, [("a", 5, "", True, ()), ("b", -5, "w", False, tuple(RIGHT_DEEDS)), given[2], given[3]])
        for row in rows:
            self.assertIs(type(row), tuple)
            self.assertIs(type(row[4]), tuple)
            for deed in row[4]:
                self.assertIs(type(deed), tuple)

    def test_what_comes_back_is_taken_again(self):
        rows = need_handlers([plain("a", deeds=[("join", "b")]), plain("b")])
        self.assertEqual(need_handlers(rows), rows)
        self.assertIsNot(need_handlers(rows), rows)

    def test_what_is_handed_in_stays(self):
        given = [plain("a", 2, deeds=[("now", "b"), ("join", "b")]), plain("b", 1, deeds=[("hush",)])]
        before = copy.deepcopy(given)
        need_handlers(given)
        self.assertEqual(given, before)
        wrong = given + [plain("a", deeds=[("hush",)])]
        before = copy.deepcopy(wrong)
        self.refused(Twice, need_handlers, wrong)
        self.assertEqual(wrong, before)

    def test_what_is_changed_later_changes_nothing(self):
        deeds = [("now", "b")]
        given = [plain("a", deeds=deeds), plain("b", deeds=deeds)]
        rows = need_handlers(given)
        deeds.append(("hush",))
        deeds[0] = ("leave", "nobody")
        given.pop()
        given[0] = None
        self.assertEqual(rows, [plain("a", deeds=(("now", "b"),)), plain("b", deeds=(("now", "b"),))])

    def test_what_comes_back_is_the_askers_own(self):
        given = [plain("a"), plain("b")]
        rows = need_handlers(given)
        rows.clear()
        self.assertEqual(given, [plain("a"), plain("b")])
        self.assertEqual(need_handlers(given), given)
        need_handlers([]).append("x")
        self.assertEqual(need_handlers([]), [])

    def test_what_is_no_handler(self):
        things = ODD_THINGS + ["", "abcde", 0, (), (1,), ("a", 0, "", False), ("a", 0, "", 0, []),
                               ("a", "0", "", False, []), ("", 0, "", False, []), ("a", 0, None, False, []),
                               ["a", 0, "", False, []], ("a", 0, "", False, [("hush",)] * 31),
                               ("a", 0, "", False, [("join",)]), (Angry(), Angry(), Angry(), Angry(), Angry()),
                               (Equal(), 0, Equal(), False, []), ("a", 0, "", False, [(Angry(), "a")])]
        for thing in things:
            self.refused(NoHandler, need_handlers, [thing])
            self.refused(NoHandler, need_handlers, many(39) + [thing])
            self.refused(NoHandler, need_handlers, [thing] + many(3))

    def test_twice(self):
        self.refused(Twice, need_handlers, [plain("a"), plain("a")])
        self.refused(Twice, need_handlers, [plain("a"), plain("b"), plain("c"), plain("a", 7, "w", [("hush",)])])
        self.refused(Twice, need_handlers, many(39) + [plain(name_at(0))])

    def test_strangers(self):
        for kind in ("join", "leave"):
            self.refused(Stranger, need_handlers, [plain("a", deeds=[(kind, "b")])])
            self.refused(Stranger, need_handlers, [plain("a", deeds=[("hush",), (kind, "a"), (kind, "b")]), plain("c")])
            self.refused(Stranger, need_handlers, many(39) + [plain("last", deeds=[("hush",)] * 29 + [(kind, "b")])])
            for given in ([plain("a", deeds=((kind, "a"),))], [plain("a", deeds=((kind, "b"),)), plain("b")],
                          [plain("b"), plain("a", deeds=((kind, "b"),))]):
                self.assertEqual(need_handlers(given), given)

    def test_words_of_events_are_no_names(self):
        given = [plain("a", hears="w", deeds=(("now", "x"), ("soon", "x"), ("wait", 1, "x"), ("cancel", "x")))]
        self.assertEqual(need_handlers(given), given)
        self.refused(Stranger, need_handlers, [plain("a", hears="w", deeds=[("now", "w"), ("join", "w")])])

    def test_the_first_wrong_one_decides(self):
        first = plain("a")
        self.refused(NoHandler, need_handlers, [first, None, first])
        self.refused(Twice, need_handlers, [first, first, None])
        self.refused(NoHandler, need_handlers, [first, ("a", 0, "", False, None)])

    def test_strangers_stand_behind_all_others(self):
        odd = plain("b", deeds=[("join", "nobody")])
        self.refused(NoHandler, need_handlers, [odd, None])
        self.refused(NoHandler, need_handlers, [odd] + many(40))
        self.refused(Twice, need_handlers, [odd, odd])
        self.refused(Twice, need_handlers, [odd, plain("a"), plain("a")])
        self.refused(Stranger, need_handlers, [odd, plain("a")])

    def test_the_one_too_many_stands_at_its_place(self):
        self.refused(Twice, need_handlers, many(39) + many(2))
        self.refused(NoHandler, need_handlers, many(40) + many(1))
        self.refused(NoHandler, need_handlers, many(40) + [None])
        self.refused(NoHandler, need_handlers, many(39) + [None] + many(1))


class TestNeedNames(Case):
    rows = [plain("a", 3), plain("b", 2), plain("c", 1)]

    def test_names_in_their_order(self):
        for names in ([], ["a"], ["c"], ["a", "b", "c"], ["c", "a", "b"], ["b", "a"]):
            self.assertEqual(need_names(self.rows, names), names)
        self.assertEqual(need_names([], []), [])
        self.assertEqual(need_names(many(40), [row[0] for row in many(40)]), [row[0] for row in many(40)])

    def test_handlers_as_handed_in_and_as_kept(self):
        given = [("a", 0, "", False, [("hush",)]), ("b", 0, "", True, ())]
        self.assertEqual(need_names(given, ["b", "a"]), ["b", "a"])
        self.assertEqual(need_names(need_handlers(given), ["b", "a"]), ["b", "a"])

    def test_the_list_is_the_askers_own(self):
        names = ["b", "a"]
        rows = copy.deepcopy(self.rows)
        kept = need_names(rows, names)
        self.assertIs(type(kept), list)
        self.assertIsNot(kept, names)
        names.append("c")
        self.assertEqual(kept, ["b", "a"])
        kept.clear()
        self.assertEqual(names, ["b", "a", "c"])
        self.assertEqual(rows, self.rows)

    def test_strangers(self):
        for thing in NO_WORDS + ["d", "ab", "aa", "A", "now"]:
            self.refused(Stranger, need_names, self.rows, [thing])
            self.refused(Stranger, need_names, self.rows, ["a", "b", thing])
            self.refused(Stranger, need_names, self.rows, [thing, "a"])
        self.refused(Stranger, need_names, [], ["a"])

    def test_what_a_handler_hears_is_no_name(self):
        self.refused(Stranger, need_names, [plain("a", hears="w")], ["w"])

    def test_twice(self):
        self.refused(Twice, need_names, self.rows, ["a", "a"])
        self.refused(Twice, need_names, self.rows, ["a", "b", "c", "a"])
        self.refused(Twice, need_names, self.rows, ["b", "a", "a", "c"])

    def test_the_first_wrong_one_decides(self):
        self.refused(Stranger, need_names, self.rows, ["a", "d", "a"])
        self.refused(Stranger, need_names, self.rows, ["d", "d"])
        self.refused(Twice, need_names, self.rows, ["a", "a", "d"])
        self.refused(Twice, need_names, self.rows, ["a", "a", None])
        self.refused(Stranger, need_names, self.rows, ["a", None, "a"])


class TestHearers(unittest.TestCase):
    rows = [plain("a", 5, "x"), plain("b", 5, ""), plain("c", -1, "x"), plain("d", 5, "y"), plain("e", 10 ** 30, ""),
            plain("f", -10 ** 30, "x"), plain("g", 5, "x")]

    def test_lesser_ranks_first(self):
        self.assertEqual(hearers(self.rows, ["e", "a", "c", "f"], "x"), ["f", "c", "a", "e"])

    def test_of_like_ranks_as_they_stand(self):
        self.assertEqual(hearers(self.rows, ["a", "b", "g"], "x"), ["a", "b", "g"])
        self.assertEqual(hearers(self.rows, ["g", "b", "a"], "x"), ["g", "b", "a"])
        self.assertEqual(hearers(self.rows, ["b", "e", "g", "c", "a"], "x"), ["c", "b", "g", "a", "e"])

    def test_who_hears_the_word(self):
        names = ["a", "b", "c", "d", "e", "f", "g"]
        self.assertEqual(hearers(self.rows, names, "x"), ["f", "c", "a", "b", "g", "e"])
        self.assertEqual(hearers(self.rows, names, "y"), ["b", "d", "e"])
        self.assertEqual(hearers(self.rows, names, "z"), ["b", "e"])
        self.assertEqual(hearers(self.rows, names, "xx"), ["b", "e"])

    def test_those_that_do_not_stand_are_not_told(self):
        self.assertEqual(hearers(self.rows, ["a"], "x"), ["a"])
        self.assertEqual(hearers(self.rows, ["d", "e"], "x"), ["e"])

    def test_nobody(self):
        self.assertEqual(hearers(self.rows, [], "x"), [])
        self.assertEqual(hearers([], [], "x"), [])
        self.assertEqual(hearers(self.rows, ["d"], "x"), [])

    def test_who_is_for_once_hears_as_well(self):
        rows = [("a", 0, "x", True, []), ("b", 0, "x", False, [("leave", "a")])]
        self.assertEqual(hearers(rows, ["b", "a"], "x"), ["b", "a"])

    def test_the_lists_stay_and_the_answer_is_the_askers_own(self):
        rows, names = copy.deepcopy(self.rows), ["e", "a", "c"]
        heard = hearers(rows, names, "x")
        self.assertIs(type(heard), list)
        heard.clear()
        self.assertEqual(names, ["e", "a", "c"])
        self.assertEqual(rows, self.rows)
        self.assertEqual(hearers(rows, names, "x"), ["c", "a", "e"])
        same = ["b"]
        self.assertIsNot(hearers(rows, same, "x"), same)


if __name__ == "__main__":
    unittest.main()
