"""Point 9, its part about what waits: eventloom.waits."""

import unittest

from looms import Dice

from eventloom.waits import Waits


def filled(soon, later):
    waits = Waits()
    for number in soon:
        waits.sooner(number)
    for number, due in later:
        waits.later(number, due)
    return waits


def all_leads(waits):
    led = []
    while True:
        lead = waits.lead()
        if lead is None:
            return led
        led.append(lead)


class TestNothing(unittest.TestCase):
    def test_a_new_one_has_nothing(self):
        self.assertIsNone(Waits().lead())
        self.assertEqual(Waits().lineup(), [])
        self.assertIs(type(Waits().lineup()), list)

    def test_asked_again_and_filled_again(self):
        waits = Waits()
        self.assertIsNone(waits.lead())
        self.assertIsNone(waits.lead())
        waits.sooner(4)
        self.assertEqual(waits.lead(), (4, None))
        self.assertIsNone(waits.lead())
        waits.later(5, 6)
        self.assertEqual(waits.lead(), (5, 6))
        self.assertIsNone(waits.lead())
        self.assertEqual(waits.lineup(), [])

    def test_the_deeds_answer_nothing(self):
        waits = Waits()
        self.assertIsNone(waits.sooner(1))
        self.assertIsNone(waits.later(2, 3))
        self.assertIsNone(waits.drop([1]))

    def test_two_have_nothing_to_do_with_each_other(self):
        first, second = Waits(), Waits()
        first.sooner(1)
        first.later(2, 0)
        self.assertEqual(second.lineup(), [])
        self.assertIsNone(second.lead())
        second.later(1, 0)
        second.drop([1, 2])
        self.assertEqual(first.lineup(), [1, 2])


class TestOrder(unittest.TestCase):
    def check(self, soon, later, order):
        self.assertEqual(filled(soon, later).lineup(), order)
        dues = dict(later)
        led = all_leads(filled(soon, later))
        self.assertEqual(led, [(number, dues.get(number)) for number in order])
        for pair in led:
            self.assertIs(type(pair), tuple)

    def test_soon_as_they_came(self):
        self.check([1, 2, 3], [], [1, 2, 3])
        self.check([3, 1, 2], [], [3, 1, 2])

    def test_soon_ahead_of_wait(self):
        self.check([7, 9], [(1, 0), (2, 5)], [7, 9, 1, 2])
        waits = filled([], [(1, 0)])
        waits.sooner(8)
        self.assertEqual(waits.lineup(), [8, 1])
        self.assertEqual(waits.lead(), (8, None))

    def test_wait_by_due(self):
        self.check([], [(0, 30), (1, 10), (2, 20)], [1, 2, 0])
        self.check([], [(5, 1), (4, 2), (3, 3)], [5, 4, 3])

    def test_of_like_dues_by_number(self):
        self.check([], [(1, 5), (2, 5), (3, 5)], [1, 2, 3])
        self.check([], [(3, 5), (1, 5), (2, 5), (0, 9), (9, 0)], [9, 1, 2, 3, 0])

    def test_dues_of_any_size(self):
        big = 10 ** 30
        self.check([], [(1, big + 1), (2, big), (3, 0), (4, 2 ** 64), (5, 10 ** 400), (6, -1), (7, -big)],
                   [7, 6, 3, 4, 2, 1, 5])

    def test_a_lead_takes_only_one_off(self):
        waits = filled([4, 6], [(1, 3), (2, 3), (3, 2)])
        for left in ([4, 6, 3, 1, 2], [6, 3, 1, 2], [3, 1, 2], [1, 2], [2], []):
            self.assertEqual(waits.lineup(), left)
            waits.lead()
        self.assertEqual(waits.lineup(), [])

    def test_more_come_between_the_leads(self):
        waits = filled([], [(0, 10), (1, 20)])
        self.assertEqual(waits.lead(), (0, 10))
        waits.later(2, 10)
        waits.later(3, 15)
        waits.sooner(4)
        self.assertEqual(all_leads(waits), [(4, None), (2, 10), (3, 15), (1, 20)])


class TestDrop(unittest.TestCase):
    def setUp(self):
        self.waits = filled([3, 1, 5], [(2, 9), (4, 8), (6, 9), (0, 8)])

    def test_of_either_road(self):
        self.waits.drop([1, 4])
        self.assertEqual(self.waits.lineup(), [3, 5, 0, 2, 6])
        self.waits.drop([6])
        self.waits.drop([3])
        self.assertEqual(self.waits.lineup(), [5, 0, 2])
        self.assertEqual(all_leads(self.waits), [(5, None), (0, 8), (2, 9)])

    def test_others_change_nothing(self):
        self.waits.drop([7, -1, 100, 10 ** 30])
        self.assertEqual(self.waits.lineup(), [3, 1, 5, 0, 4, 2, 6])
        self.waits.drop([8, 0, 9])
        self.assertEqual(self.waits.lineup(), [3, 1, 5, 4, 2, 6])
        self.waits.lead()
        self.waits.drop([3])
        self.assertEqual(self.waits.lineup(), [1, 5, 4, 2, 6])

    def test_a_due_is_no_number(self):
        self.waits.drop([8, 9])
        self.assertEqual(self.waits.lineup(), [3, 1, 5, 0, 4, 2, 6])

    def test_the_empty_list(self):
        self.waits.drop([])
        self.assertEqual(self.waits.lineup(), [3, 1, 5, 0, 4, 2, 6])
        empty = Waits()
        empty.drop([])
        empty.drop([1])
        self.assertEqual(empty.lineup(), [])

    def test_all(self):
        self.waits.drop([0, 1, 2, 3, 4, 5, 6])
        self.assertEqual(self.waits.lineup(), [])
        self.assertIsNone(self.waits.lead())

    def test_a_number_told_twice(self):
        self.waits.drop([2, 2, 3, 3])
        self.assertEqual(self.waits.lineup(), [1, 5, 0, 4, 6])

    def test_who_was_dropped_may_wait_again(self):
        self.waits.drop([3, 4])
        self.waits.sooner(3)
        self.waits.later(4, 100)
        self.assertEqual(self.waits.lineup(), [1, 5, 3, 0, 2, 6, 4])
        self.assertEqual(all_leads(self.waits)[-1], (4, 100))

    def test_the_order_of_many_stays(self):
        dice = Dice(5)
        pairs = [(number, dice.below(40)) for number in range(300)]
        waits = filled([], pairs)
        waits.drop([number for number in range(300) if number % 3 == 0])
        left = sorted([(due, number) for number, due in pairs if number % 3 != 0])
        self.assertEqual(waits.lineup(), [number for _, number in left])
        self.assertEqual(all_leads(waits), [(number, due) for due, number in left])


class TestLists(unittest.TestCase):
    def test_what_is_handed_in_stays(self):
        waits = filled([1, 2], [(3, 4)])
        numbers = [2, 9, 3]
        waits.drop(numbers)
        self.assertEqual(numbers, [2, 9, 3])
        numbers.append(1)
        self.assertEqual(waits.lineup(), [1])

    def test_a_told_list_is_the_askers_own(self):
        waits = filled([1, 2], [(3, 4)])
        told = waits.lineup()
        told.clear()
        self.assertEqual(waits.lineup(), [1, 2, 3])
        told = waits.lineup()
        told.append(9)
        told[0] = 8
        self.assertEqual(waits.lineup(), [1, 2, 3])
        self.assertEqual(waits.lead(), (1, None))

    def test_a_told_list_stays_behind_the_next_deeds(self):
        for soon, later in (([1, 2], [(3, 4)]), ([1, 2], []), ([], [(1, 4), (2, 4)])):
            waits = filled(soon, later)
            told = waits.lineup()
            before = list(told)
            waits.sooner(7)
            waits.later(8, 0)
            waits.lead()
            waits.drop([2])
            self.assertEqual(told, before)


class TestAgainstASlowOne(unittest.TestCase):
    def test_mixed_deeds(self):
        dice = Dice(11)
        waits, early, late = Waits(), [], []
        for number in range(3000):
            deed = dice.below(8)
            if deed < 2:
                waits.sooner(number)
                early.append(number)
            elif deed < 5:
                due = dice.below(20)
                waits.later(number, due)
                late.append((due, number))
            elif deed < 7:
                late.sort()
                lead = None
                if early:
                    lead = (early.pop(0), None)
                elif late:
                    lead = late.pop(0)[::-1]
                self.assertEqual(waits.lead(), lead)
            else:
                gone = [dice.below(number + 1) for _ in range(5)]
                waits.drop(gone)
                early = [at for at in early if at not in gone]
                late = [pair for pair in late if pair[1] not in gone]
            self.assertEqual(waits.lineup(), early + [pair[1] for pair in sorted(late)])


if __name__ == "__main__":
    unittest.main()
