"""Point [7]: all that came in a lot is left, lost, or used and not given back."""

import unittest

from barnlots.day import answers, lots_behind, sums
from tests.days import Ledger, long_day


class Whereabouts(unittest.TestCase):
    def assert_all_is_told(self, deeds):
        told = answers(deeds)
        money = sums(deeds)
        ledger = Ledger()
        for k, deed in enumerate(deeds):
            ledger.write(deed, told[k])
            self.assert_lot_by_lot(ledger, lots_behind(deeds[: k + 1]))
            self.assertEqual(money[k][0], sum(ledger.came) - sum(ledger.lost) - sum(ledger.out))
            self.assertEqual(
                ledger.money(ledger.came),
                money[k][1] + ledger.money(ledger.lost) + ledger.money(ledger.out),
            )

    def assert_lot_by_lot(self, ledger, lots):
        self.assertEqual([lot[1] for lot in lots], list(range(len(ledger.came))))
        for ware, number, left, price in lots:
            self.assertEqual(price, ledger.prices[number])
            self.assertGreaterEqual(min(left, ledger.lost[number], ledger.out[number]), 0)
            self.assertEqual(ledger.came[number], left + ledger.lost[number] + ledger.out[number])

    def test_long_days(self):
        for seed in range(100, 106):
            with self.subTest(seed=seed):
                self.assert_all_is_told(long_day(seed, 200))

    def test_long_days_of_huge_numbers(self):
        for seed in range(200, 203):
            with self.subTest(seed=seed):
                self.assert_all_is_told(long_day(seed, 200, 10**108 + 7))

    def test_the_long_days_hold_every_kind_of_answer(self):
        seen = set()
        for seed in list(range(40)) + list(range(100, 106)) + list(range(200, 203)):
            deeds = long_day(seed, 200)
            for deed, answer in zip(deeds, answers(deeds)):
                told = "none" if answer is None else answer[0] if deed[0] == "count" else "done"
                seen.add((deed[0], told))
        self.assertEqual(
            seen,
            {
                ("come", "done"),
                ("use", "done"),
                ("use", "none"),
                ("back", "done"),
                ("back", "none"),
                ("count", "same"),
                ("count", "lost"),
                ("count", "more"),
            },
        )


if __name__ == "__main__":
    unittest.main()
