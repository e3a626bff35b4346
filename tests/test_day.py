"""A day, deed by deed: points [2] to [6], and what [1] says of that which is handed in."""

import copy
import inspect
import unittest

from barnlots import day as day_module
from barnlots.day import answers, lots_behind, sums
from tests.days import PieceBarn, long_day

HUGE = 10**110 - 1


class DayCase(unittest.TestCase):
    def assert_nothing_done(self, ahead, deed, expected=None):
        """Behind the days ahead, the deed is answered as expected and leaves all as it was."""
        self.assertEqual(answers(ahead + [deed])[-1], expected)
        self.assertEqual(lots_behind(ahead + [deed]), lots_behind(ahead))
        self.assertEqual(([(0, 0)] + sums(ahead))[-1], sums(ahead + [deed])[-1])


class Interface(unittest.TestCase):
    def test_names_and_arguments(self):
        for name in ("answers", "sums", "lots_behind"):
            with self.subTest(name):
                function = getattr(day_module, name)
                self.assertEqual(list(inspect.signature(function).parameters), ["deeds"])

    def test_kinds_that_come_back(self):
        deeds = [("come", "a", 3, 2), ("use", "a", 2), ("back", 0, 1), ("count", "a", 0)]
        told = answers(deeds)
        self.assertEqual([type(row) for row in told], [int, tuple, list, tuple])
        self.assertIs(type(told[1][1]), list)
        self.assertIs(type(told[3][1]), list)
        for part in told[1][1] + told[2] + told[3][1]:
            self.assertIs(type(part), tuple)
        for rows in (told, sums(deeds), lots_behind(deeds)):
            self.assertIs(type(rows), list)
        for row in sums(deeds) + lots_behind(deeds):
            self.assertIs(type(row), tuple)

    def test_no_deeds(self):
        self.assertEqual(answers([]), [])
        self.assertEqual(sums([]), [])
        self.assertEqual(lots_behind([]), [])

    def test_each_day_begins_with_an_empty_barn(self):
        deeds = [("come", "a", 3, 2), ("use", "a", 3)]
        for _ in range(2):
            self.assertEqual(answers(deeds), [0, (0, [(0, 3, 2)])])
            self.assertEqual(sums(deeds), [(3, 6), (0, 0)])
            self.assertEqual(lots_behind(deeds), [("a", 0, 0, 2)])


class Come(DayCase):
    def test_numbered_over_all_wares(self):
        deeds = [("come", "a", 3, 2), ("come", "b", 1, 0), ("come", "a", 5, 9), ("come", "b", 4, 1)]
        self.assertEqual(answers(deeds), [0, 1, 2, 3])
        self.assertEqual(
            lots_behind(deeds), [("a", 0, 3, 2), ("b", 1, 1, 0), ("a", 2, 5, 9), ("b", 3, 4, 1)]
        )
        self.assertEqual(sums(deeds), [(3, 6), (4, 6), (9, 51), (13, 55)])

    def test_the_same_price_is_still_a_lot_of_its_own(self):
        deeds = [("come", "a", 3, 2), ("come", "a", 3, 2)]
        self.assertEqual(lots_behind(deeds), [("a", 0, 3, 2), ("a", 1, 3, 2)])

    def test_more_than_ten_lots_stand_by_number(self):
        deeds = [("come", "ab"[k % 2], k + 1, k) for k in range(25)]
        self.assertEqual(lots_behind(deeds), [("ab"[k % 2], k, k + 1, k) for k in range(25)])


class Use(DayCase):
    START = [("come", "a", 3, 2), ("come", "b", 8, 5), ("come", "a", 4, 7)]

    def test_from_the_oldest_on(self):
        deeds = self.START + [("use", "a", 2), ("use", "a", 4)]
        self.assertEqual(answers(deeds)[3:], [(0, [(0, 2, 2)]), (1, [(0, 1, 2), (2, 3, 7)])])
        self.assertEqual(lots_behind(deeds), [("a", 0, 0, 2), ("b", 1, 8, 5), ("a", 2, 1, 7)])
        self.assertEqual(sums(deeds)[3:], [(13, 70), (9, 47)])

    def test_numbered_over_all_wares(self):
        deeds = self.START + [("use", "b", 1), ("use", "a", 1), ("use", "b", 1)]
        self.assertEqual([answer[0] for answer in answers(deeds)[3:]], [0, 1, 2])

    def test_all_that_there_is(self):
        deeds = self.START + [("use", "a", 7)]
        self.assertEqual(answers(deeds)[3], (0, [(0, 3, 2), (2, 4, 7)]))
        self.assertEqual(lots_behind(deeds), [("a", 0, 0, 2), ("b", 1, 8, 5), ("a", 2, 0, 7)])

    def test_one_more_than_there_is(self):
        self.assert_nothing_done(self.START, ("use", "a", 8))
        self.assert_nothing_done(self.START + [("use", "a", 7)], ("use", "a", 1))

    def test_a_ware_without_lots(self):
        self.assert_nothing_done([], ("use", "a", 1))
        self.assert_nothing_done(self.START, ("use", "c", 1))

    def test_a_refused_use_takes_no_number(self):
        deeds = self.START + [("use", "a", 8), ("use", "c", 1), ("use", "a", 1), ("use", "b", 9), ("use", "b", 1)]
        self.assertEqual(answers(deeds)[3:], [None, None, (0, [(0, 1, 2)]), None, (1, [(1, 1, 5)])])

    def test_an_empty_lot_is_passed_over(self):
        deeds = self.START + [("use", "a", 3), ("use", "a", 1)]
        self.assertEqual(answers(deeds)[4], (1, [(2, 1, 7)]))


class Back(DayCase):
    START = [("come", "a", 3, 2), ("come", "b", 8, 5), ("come", "a", 4, 7), ("come", "a", 5, 1)]
    USED = START + [("use", "a", 10)]

    def test_from_the_last_part_on(self):
        deeds = self.USED + [("back", 0, 5)]
        self.assertEqual(answers(deeds)[-2:], [(0, [(0, 3, 2), (2, 4, 7), (3, 3, 1)]), [(3, 3, 1), (2, 2, 7)]])
        self.assertEqual(
            lots_behind(deeds), [("a", 0, 0, 2), ("b", 1, 8, 5), ("a", 2, 2, 7), ("a", 3, 5, 1)]
        )
        self.assertEqual(sums(deeds)[-2:], [(10, 42), (15, 59)])

    def test_in_several_pieces(self):
        deeds = self.USED + [("back", 0, 2), ("back", 0, 1), ("back", 0, 3), ("back", 0, 2), ("back", 0, 2)]
        self.assertEqual(
            answers(deeds)[5:], [[(3, 2, 1)], [(3, 1, 1)], [(2, 3, 7)], [(2, 1, 7), (0, 1, 2)], [(0, 2, 2)]]
        )
        self.assertEqual(lots_behind(deeds), lots_behind(self.START))
        self.assert_nothing_done(deeds, ("back", 0, 1))

    def test_all_that_is_out_and_one_more(self):
        self.assertEqual(answers(self.USED + [("back", 0, 10)])[-1], [(3, 3, 1), (2, 4, 7), (0, 3, 2)])
        self.assert_nothing_done(self.USED, ("back", 0, 11))
        some_back = self.USED + [("back", 0, 4)]
        self.assertEqual(answers(some_back + [("back", 0, 6)])[-1], [(2, 3, 7), (0, 3, 2)])
        self.assert_nothing_done(some_back, ("back", 0, 7))

    def test_a_refused_giving_back_leaves_the_use_as_it_was(self):
        deeds = self.USED + [("back", 0, 11), ("back", 0, 10)]
        self.assertEqual(answers(deeds)[-2:], [None, [(3, 3, 1), (2, 4, 7), (0, 3, 2)]])

    def test_a_use_that_there_is_not(self):
        for number in (-1, -2, 1, 2, 10**110, -(10**110)):
            with self.subTest(number=number):
                self.assert_nothing_done(self.USED, ("back", number, 1))
        for number in (-1, 0, 1):
            with self.subTest(number=number, uses=0):
                self.assert_nothing_done([], ("back", number, 1))
                self.assert_nothing_done(self.START, ("back", number, 1))

    def test_a_refused_use_is_no_use(self):
        self.assert_nothing_done(self.START + [("use", "a", 13)], ("back", 0, 1))

    def test_of_the_use_that_is_named(self):
        deeds = self.START + [("use", "a", 2), ("use", "b", 3), ("use", "a", 2)]
        deeds = deeds + [("back", 0, 1), ("back", 1, 2), ("back", 2, 2), ("back", 0, 1), ("back", 1, 2)]
        self.assertEqual(answers(deeds)[7:], [[(0, 1, 2)], [(1, 2, 5)], [(2, 1, 7), (0, 1, 2)], [(0, 1, 2)], None])
        self.assertEqual(
            lots_behind(deeds), [("a", 0, 3, 2), ("b", 1, 7, 5), ("a", 2, 4, 7), ("a", 3, 5, 1)]
        )

    def test_what_came_back_is_used_again_as_a_new_use(self):
        deeds = self.USED + [("back", 0, 8), ("use", "a", 2), ("back", 0, 3), ("back", 1, 2), ("back", 0, 2)]
        self.assertEqual(
            answers(deeds)[5:],
            [[(3, 3, 1), (2, 4, 7), (0, 1, 2)], (1, [(0, 1, 2), (2, 1, 7)]), None, [(2, 1, 7), (0, 1, 2)], [(0, 2, 2)]],
        )

    def test_to_a_lot_of_which_the_rest_was_lost(self):
        deeds = [("come", "a", 5, 2), ("use", "a", 3), ("count", "a", 0), ("back", 0, 2)]
        self.assertEqual(answers(deeds)[2:], [("lost", [(0, 2, 2)]), [(0, 2, 2)]])
        self.assertEqual(lots_behind(deeds), [("a", 0, 2, 2)])

    def test_answers_given_before_stay_as_they_were(self):
        self.assertEqual(answers(self.USED + [("back", 0, 10)])[:5], answers(self.USED))


class Count(DayCase):
    START = [("come", "a", 3, 2), ("come", "b", 8, 5), ("come", "a", 4, 7)]

    def test_as_many(self):
        self.assert_nothing_done(self.START, ("count", "a", 7), ("same", []))
        self.assert_nothing_done([], ("count", "a", 0), ("same", []))
        self.assert_nothing_done(self.START + [("use", "a", 7)], ("count", "a", 0), ("same", []))

    def test_fewer_are_lost_from_the_newest_on(self):
        deeds = self.START + [("count", "a", 6), ("count", "a", 1)]
        self.assertEqual(answers(deeds)[3:], [("lost", [(2, 1, 7)]), ("lost", [(2, 3, 7), (0, 2, 2)])])
        self.assertEqual(lots_behind(deeds), [("a", 0, 1, 2), ("b", 1, 8, 5), ("a", 2, 0, 7)])
        self.assertEqual(sums(deeds)[3:], [(14, 67), (9, 42)])

    def test_none(self):
        deeds = self.START + [("count", "a", 0)]
        self.assertEqual(answers(deeds)[3], ("lost", [(2, 4, 7), (0, 3, 2)]))
        self.assertEqual(lots_behind(deeds), [("a", 0, 0, 2), ("b", 1, 8, 5), ("a", 2, 0, 7)])

    def test_more_come_at_the_price_of_the_newest_lot(self):
        deeds = self.START + [("count", "a", 9), ("come", "b", 1, 1)]
        self.assertEqual(answers(deeds)[3:], [("more", [(3, 2, 7)]), 4])
        self.assertEqual(lots_behind(deeds)[3:], [("a", 3, 2, 7), ("b", 4, 1, 1)])
        self.assertEqual(sums(deeds)[3:], [(17, 88), (18, 89)])

    def test_more_where_the_newest_lot_has_nothing_left(self):
        lost = self.START + [("count", "a", 2), ("count", "a", 3)]
        self.assertEqual(answers(lost)[3:], [("lost", [(2, 4, 7), (0, 1, 2)]), ("more", [(3, 1, 7)])])
        used = self.START + [("use", "a", 7), ("count", "a", 5)]
        self.assertEqual(answers(used)[4], ("more", [(3, 5, 7)]))
        self.assertEqual(
            lots_behind(used), [("a", 0, 0, 2), ("b", 1, 8, 5), ("a", 2, 0, 7), ("a", 3, 5, 7)]
        )

    def test_more_where_the_ware_has_no_lot_yet(self):
        deeds = [("come", "b", 8, 5), ("count", "a", 4), ("count", "a", 6)]
        self.assertEqual(answers(deeds), [0, ("more", [(1, 4, 0)]), ("more", [(2, 2, 0)])])
        self.assertEqual(lots_behind(deeds), [("b", 0, 8, 5), ("a", 1, 4, 0), ("a", 2, 2, 0)])
        self.assertEqual(sums(deeds), [(8, 40), (12, 40), (14, 40)])

    def test_more_behind_deeds_that_left_no_lot(self):
        deeds = [("use", "a", 1), ("count", "a", 0), ("count", "a", 2)]
        self.assertEqual(answers(deeds), [None, ("same", []), ("more", [(0, 2, 0)])])

    def test_more_are_used_and_lost_like_any_lot(self):
        deeds = self.START + [("count", "a", 9), ("use", "a", 8), ("back", 0, 2), ("count", "a", 1)]
        self.assertEqual(
            answers(deeds)[3:],
            [
                ("more", [(3, 2, 7)]),
                (0, [(0, 3, 2), (2, 4, 7), (3, 1, 7)]),
                [(3, 1, 7), (2, 1, 7)],
                ("lost", [(3, 2, 7)]),
            ],
        )

    def test_what_is_lost_is_not_out(self):
        deeds = self.START + [("use", "a", 2), ("count", "a", 0)]
        self.assert_nothing_done(deeds, ("back", 0, 3))

    def test_what_is_out_is_not_counted(self):
        deeds = self.START + [("use", "a", 2), ("count", "a", 5)]
        self.assertEqual(answers(deeds)[4], ("same", []))


class Wares(unittest.TestCase):
    ALIKE = ["", " ", "  ", "oats", "Oats", "OATS", "oats ", " oats", "o ats", "oat", "oats\n", "\u00f6ats", "o\u0308ats"]

    def test_each_text_is_a_ware_of_its_own(self):
        deeds = [("come", ware, k + 1, k) for k, ware in enumerate(self.ALIKE)]
        deeds += [("use", ware, k + 2) for k, ware in enumerate(self.ALIKE)]
        deeds += [("count", ware, k + 1) for k, ware in enumerate(self.ALIKE)]
        deeds += [("use", ware, k + 1) for k, ware in enumerate(self.ALIKE)]
        size = len(self.ALIKE)
        self.assertEqual(
            answers(deeds),
            list(range(size))
            + [None] * size
            + [("same", [])] * size
            + [(k, [(k, k + 1, k)]) for k in range(size)],
        )
        self.assertEqual(lots_behind(deeds), [(ware, k, 0, k) for k, ware in enumerate(self.ALIKE)])

    def test_the_empty_text(self):
        deeds = [("count", "", 2), ("come", "", 3, 4), ("use", "", 4), ("back", 0, 3), ("count", "", 9)]
        self.assertEqual(
            answers(deeds),
            [("more", [(0, 2, 0)]), 1, (0, [(0, 2, 0), (1, 2, 4)]), [(1, 2, 4), (0, 1, 0)], ("more", [(2, 5, 4)])],
        )
        self.assertEqual(lots_behind(deeds), [("", 0, 1, 0), ("", 1, 3, 4), ("", 2, 5, 4)])

    def test_a_ware_called_like_a_deed(self):
        deeds = [("come", "use", 2, 1), ("use", "use", 1), ("count", "back", 1), ("count", "use", 0)]
        self.assertEqual(answers(deeds), [0, (0, [(0, 1, 1)]), ("more", [(1, 1, 0)]), ("lost", [(0, 1, 1)])])


class Bounds(unittest.TestCase):
    def test_huge_numbers(self):
        deeds = [
            ("come", "a", HUGE, HUGE),
            ("come", "a", HUGE, HUGE - 1),
            ("use", "a", 2 * HUGE + 1),
            ("use", "a", HUGE + 1),
            ("back", 0, HUGE + 2),
            ("back", 0, HUGE),
            ("count", "a", HUGE),
            ("count", "a", 2 * HUGE),
        ]
        self.assertEqual(
            answers(deeds),
            [
                0,
                1,
                None,
                (0, [(0, HUGE, HUGE), (1, 1, HUGE - 1)]),
                None,
                [(1, 1, HUGE - 1), (0, HUGE - 1, HUGE)],
                ("lost", [(1, HUGE - 1, HUGE - 1)]),
                ("more", [(2, HUGE, HUGE - 1)]),
            ],
        )
        self.assertEqual(
            lots_behind(deeds), [("a", 0, HUGE - 1, HUGE), ("a", 1, 1, HUGE - 1), ("a", 2, HUGE, HUGE - 1)]
        )
        self.assertEqual(
            sums(deeds)[-1], (2 * HUGE, (HUGE - 1) * HUGE + (HUGE - 1) + HUGE * (HUGE - 1))
        )

    def test_two_hundred_deeds_and_some_beyond(self):
        for length in (200, 230):
            deeds = [("come", "a", 1, k) for k in range(length - 2)]
            deeds += [("use", "a", length - 2), ("back", 0, length - 2)]
            told = answers(deeds)
            self.assertEqual(told[: length - 2], list(range(length - 2)))
            self.assertEqual(told[-2], (0, [(k, 1, k) for k in range(length - 2)]))
            self.assertEqual(told[-1], [(k, 1, k) for k in reversed(range(length - 2))])
            self.assertEqual(len(sums(deeds)), length)


class LongDays(unittest.TestCase):
    def test_as_a_barn_of_single_pieces_has_it(self):
        for seed in range(40):
            with self.subTest(seed=seed):
                deeds = long_day(seed, 200)
                barn = PieceBarn()
                told = []
                totals = []
                for deed in deeds:
                    told.append(barn.do(deed))
                    totals.append(barn.totals())
                self.assertEqual(answers(deeds), told)
                self.assertEqual(sums(deeds), totals)
                self.assertEqual(lots_behind(deeds), barn.told_lots())


class HandedIn(unittest.TestCase):
    def test_deeds_are_as_they_were(self):
        for seed in range(5):
            deeds = long_day(seed, 200)
            for function in (answers, sums, lots_behind):
                with self.subTest(seed=seed, function=function.__name__):
                    before = copy.deepcopy(deeds)
                    function(deeds)
                    self.assertEqual(deeds, before)


if __name__ == "__main__":
    unittest.main()
