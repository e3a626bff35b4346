"""Lots and parts: points [2] to [5], and what [1] says of that which is handed in."""

import copy
import inspect
import unittest

from barnlots import lots as lots_module
from barnlots.lots import held, newest_first, oldest_first, put_back, worth

LOTS = [(2, 4, 10), (5, 0, 7), (6, 3, 0), (9, 5, 8)]
HUGE = 10**110 - 1


class Interface(unittest.TestCase):
    def test_names_and_arguments(self):
        for name, arguments in [
            ("oldest_first", ["lots", "amount"]),
            ("newest_first", ["lots", "amount"]),
            ("put_back", ["lots", "parts"]),
            ("held", ["lots"]),
            ("worth", ["lots"]),
        ]:
            with self.subTest(name):
                function = getattr(lots_module, name)
                self.assertEqual(list(inspect.signature(function).parameters), arguments)

    def test_kinds_that_come_back(self):
        for pair in [oldest_first(LOTS, 6), newest_first(LOTS, 6)]:
            self.assertIs(type(pair), tuple)
            for part in pair:
                self.assertIs(type(part), list)
                self.assertEqual({type(row) for row in part}, {tuple})
        behind = put_back(LOTS, [(5, 1, 7)])
        self.assertIs(type(behind), list)
        self.assertEqual({type(row) for row in behind}, {tuple})
        self.assertIs(type(held(LOTS)), int)
        self.assertIs(type(worth(LOTS)), int)


class OldestFirst(unittest.TestCase):
    def test_within_the_first_lot(self):
        self.assertEqual(
            oldest_first(LOTS, 3),
            ([(2, 1, 10), (5, 0, 7), (6, 3, 0), (9, 5, 8)], [(2, 3, 10)]),
        )

    def test_just_the_first_lot(self):
        self.assertEqual(
            oldest_first(LOTS, 4),
            ([(2, 0, 10), (5, 0, 7), (6, 3, 0), (9, 5, 8)], [(2, 4, 10)]),
        )

    def test_over_an_empty_lot(self):
        self.assertEqual(
            oldest_first(LOTS, 5),
            ([(2, 0, 10), (5, 0, 7), (6, 2, 0), (9, 5, 8)], [(2, 4, 10), (6, 1, 0)]),
        )

    def test_all_that_they_hold(self):
        self.assertEqual(
            oldest_first(LOTS, 12),
            ([(2, 0, 10), (5, 0, 7), (6, 0, 0), (9, 0, 8)], [(2, 4, 10), (6, 3, 0), (9, 5, 8)]),
        )

    def test_nought(self):
        self.assertEqual(oldest_first(LOTS, 0), (LOTS, []))

    def test_no_lots(self):
        self.assertEqual(oldest_first([], 0), ([], []))

    def test_empty_lots_alone(self):
        self.assertEqual(oldest_first([(0, 0, 3), (1, 0, 4)], 0), ([(0, 0, 3), (1, 0, 4)], []))

    def test_an_empty_lot_ahead(self):
        self.assertEqual(oldest_first([(0, 0, 3), (1, 2, 4)], 1), ([(0, 0, 3), (1, 1, 4)], [(1, 1, 4)]))

    def test_huge_numbers(self):
        self.assertEqual(
            oldest_first([(0, HUGE, HUGE), (1, HUGE, 1)], HUGE + 1),
            ([(0, 0, HUGE), (1, HUGE - 1, 1)], [(0, HUGE, HUGE), (1, 1, 1)]),
        )


class NewestFirst(unittest.TestCase):
    def test_within_the_last_lot(self):
        self.assertEqual(
            newest_first(LOTS, 2),
            ([(2, 4, 10), (5, 0, 7), (6, 3, 0), (9, 3, 8)], [(9, 2, 8)]),
        )

    def test_just_the_last_lot(self):
        self.assertEqual(
            newest_first(LOTS, 5),
            ([(2, 4, 10), (5, 0, 7), (6, 3, 0), (9, 0, 8)], [(9, 5, 8)]),
        )

    def test_parts_fall_and_lots_rise(self):
        self.assertEqual(
            newest_first(LOTS, 10),
            ([(2, 2, 10), (5, 0, 7), (6, 0, 0), (9, 0, 8)], [(9, 5, 8), (6, 3, 0), (2, 2, 10)]),
        )

    def test_all_that_they_hold(self):
        self.assertEqual(
            newest_first(LOTS, 12),
            ([(2, 0, 10), (5, 0, 7), (6, 0, 0), (9, 0, 8)], [(9, 5, 8), (6, 3, 0), (2, 4, 10)]),
        )

    def test_nought(self):
        self.assertEqual(newest_first(LOTS, 0), (LOTS, []))

    def test_no_lots(self):
        self.assertEqual(newest_first([], 0), ([], []))

    def test_an_empty_lot_behind(self):
        self.assertEqual(newest_first([(0, 2, 3), (1, 0, 4)], 1), ([(0, 1, 3), (1, 0, 4)], [(0, 1, 3)]))

    def test_huge_numbers(self):
        self.assertEqual(
            newest_first([(0, HUGE, 1), (1, HUGE, HUGE)], HUGE + 1),
            ([(0, HUGE - 1, 1), (1, 0, HUGE)], [(1, HUGE, HUGE), (0, 1, 1)]),
        )


class PutBack(unittest.TestCase):
    def test_one_part(self):
        self.assertEqual(put_back(LOTS, [(6, 2, 0)]), [(2, 4, 10), (5, 0, 7), (6, 5, 0), (9, 5, 8)])

    def test_to_an_empty_lot(self):
        self.assertEqual(put_back(LOTS, [(5, 1, 7)]), [(2, 4, 10), (5, 1, 7), (6, 3, 0), (9, 5, 8)])

    def test_several_parts_of_one_lot(self):
        self.assertEqual(
            put_back(LOTS, [(9, 1, 8), (2, 6, 10), (9, 20, 8), (9, 300, 8)]),
            [(2, 10, 10), (5, 0, 7), (6, 3, 0), (9, 326, 8)],
        )

    def test_no_parts(self):
        self.assertEqual(put_back(LOTS, []), LOTS)

    def test_no_lots(self):
        self.assertEqual(put_back([], []), [])

    def test_huge_numbers(self):
        self.assertEqual(
            put_back([(0, HUGE, HUGE)], [(0, HUGE, HUGE), (0, 1, HUGE)]), [(0, 2 * HUGE + 1, HUGE)]
        )

    def test_what_was_taken_goes_back(self):
        for take in (oldest_first, newest_first):
            for amount in range(held(LOTS) + 1):
                with self.subTest(take=take.__name__, amount=amount):
                    behind, parts = take(LOTS, amount)
                    self.assertEqual(put_back(behind, parts), LOTS)


class HeldAndWorth(unittest.TestCase):
    def test_some_lots(self):
        self.assertEqual(held(LOTS), 12)
        self.assertEqual(worth(LOTS), 80)

    def test_no_lots(self):
        self.assertEqual(held([]), 0)
        self.assertEqual(worth([]), 0)

    def test_empty_lots(self):
        self.assertEqual(held([(0, 0, 5), (1, 0, 6)]), 0)
        self.assertEqual(worth([(0, 0, 5), (1, 0, 6)]), 0)

    def test_price_of_nought(self):
        self.assertEqual(held([(3, 7, 0)]), 7)
        self.assertEqual(worth([(3, 7, 0)]), 0)

    def test_huge_numbers(self):
        self.assertEqual(held([(0, HUGE, HUGE), (1, HUGE, 1)]), 2 * HUGE)
        self.assertEqual(worth([(0, HUGE, HUGE), (1, HUGE, 1)]), HUGE * HUGE + HUGE)


class HandedIn(unittest.TestCase):
    def assert_unchanged(self, function, *arguments):
        before = copy.deepcopy(arguments)
        function(*arguments)
        self.assertEqual(arguments, before)

    def test_lots_and_parts_are_as_they_were(self):
        for amount in (0, 1, 4, 8, 12):
            self.assert_unchanged(oldest_first, list(LOTS), amount)
            self.assert_unchanged(newest_first, list(LOTS), amount)
        for parts in ([], [(5, 1, 7)], [(9, 1, 8), (2, 6, 10), (9, 2, 8)]):
            self.assert_unchanged(put_back, list(LOTS), parts)
        self.assert_unchanged(held, list(LOTS))
        self.assert_unchanged(worth, list(LOTS))

    def test_what_comes_back_is_not_the_list_handed_in(self):
        for made in (oldest_first(LOTS, 0)[0], newest_first(LOTS, 0)[0], put_back(LOTS, [])):
            self.assertIsNot(made, LOTS)


if __name__ == "__main__":
    unittest.main()
