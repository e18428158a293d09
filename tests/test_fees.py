"""Fees (points 1 to 4)."""

import unittest

from costorder.fees import KINDS, cost_of, fee_of, pages_cost

COURT = [(100, 7), (1000, 19), (5000, 43)]
SPEAKERS = [(100, 9), (1000, 21), (5000, 47)]


class FeeOf(unittest.TestCase):
    def test_round_a_limit(self):
        for worth, fee in ((0, 7), (1, 7), (99, 7), (100, 7), (101, 19), (999, 19), (1000, 19),
                           (1001, 43), (4999, 43), (5000, 43)):
            with self.subTest(worth):
                self.assertEqual(fee_of(COURT, worth), fee)

    def test_above_all_limits_the_last_fee_holds(self):
        for worth in (5001, 9999999999, 10 ** 12):
            self.assertEqual(fee_of(COURT, worth), 43)

    def test_fees_that_go_down_as_limits_go_up(self):
        table = [(10, 900), (20, 50), (30, 0)]
        answers = [fee_of(table, worth) for worth in (0, 10, 11, 20, 21, 30, 31)]
        self.assertEqual(answers, [900, 900, 50, 50, 0, 0, 0])

    def test_fees_up_and_down(self):
        table = [(1, 5), (2, 9999999), (3, 1), (9999999999, 8)]
        answers = [fee_of(table, worth) for worth in (0, 1, 2, 3, 4, 9999999999, 10000000000)]
        self.assertEqual(answers, [5, 5, 9999999, 1, 8, 8, 8])

    def test_a_table_of_one_tuple(self):
        for worth in (0, 49, 50, 51, 10 ** 12):
            self.assertEqual(fee_of([(50, 3)], worth), 3)

    def test_a_table_of_forty_tuples(self):
        table = [(10 * (k + 1), 1000 + (k * 7) % 40) for k in range(40)]
        for k in range(40):
            fee = 1000 + (k * 7) % 40
            self.assertEqual(fee_of(table, 10 * k + 1), fee)
            self.assertEqual(fee_of(table, 10 * k + 10), fee)
        self.assertEqual(fee_of(table, 401), 1000 + (39 * 7) % 40)

    def test_somewhat_beyond_the_bounds_nothing_is_refused(self):
        table = [(k + 1, k) for k in range(41)] + [(10 ** 11, 10 ** 8)]
        self.assertEqual(fee_of(table, 41), 40)
        self.assertEqual(fee_of(table, 10 ** 13), 10 ** 8)


class PagesCost(unittest.TestCase):
    def test_edges(self):
        for pages, coins in ((0, 0), (1, 50), (2, 100), (49, 2450), (50, 2500), (51, 2515), (52, 2530),
                             (100, 3250), (9999999, 150001735)):
            with self.subTest(pages):
                self.assertEqual(pages_cost(pages), coins)

    def test_somewhat_beyond_the_bounds_nothing_is_refused(self):
        self.assertEqual(pages_cost(10000000), 150001750)


class CostOf(unittest.TestCase):
    def test_the_kinds(self):
        self.assertEqual(KINDS, ("filing", "hearing", "plea", "speech", "witness", "paper"))
        self.assertIsInstance(KINDS, tuple)

    def test_each_kind_once(self):
        # At the worth 500 the court's fee is 19 and the speakers' fee 21.
        told = [cost_of(kind, 1, 500, COURT, SPEAKERS) for kind in KINDS]
        self.assertEqual(told, [57, 19, 27, 25, 1, 50])

    def test_rounded_down_once_behind_the_product(self):
        # 21 * 13 / 10 is 27.3 and 21 * 12 / 10 is 25.2: ten of them are 273 and 252, not 270 and 250.
        self.assertEqual(cost_of("plea", 10, 500, COURT, SPEAKERS), 273)
        self.assertEqual(cost_of("speech", 10, 500, COURT, SPEAKERS), 252)
        self.assertEqual(cost_of("plea", 4, 500, COURT, SPEAKERS), 109)
        self.assertEqual(cost_of("speech", 9, 500, COURT, SPEAKERS), 226)

    def test_rounded_down_and_not_to_the_nearest(self):
        # 9 * 13 / 10 is 11.7 and 9 * 12 / 10 is 10.8.
        self.assertEqual(cost_of("plea", 1, 100, COURT, SPEAKERS), 11)
        self.assertEqual(cost_of("speech", 1, 100, COURT, SPEAKERS), 10)

    def test_none_and_ninety_nine(self):
        for kind in KINDS:
            self.assertEqual(cost_of(kind, 0, 500, COURT, SPEAKERS), 0)
        told = [cost_of(kind, 99, 500, COURT, SPEAKERS) for kind in KINDS]
        self.assertEqual(told, [5643, 1881, 2702, 2494, 99, 3235])

    def test_the_worth_chooses_the_fee_in_the_right_table(self):
        for worth, court, speech in ((0, 7, 10), (100, 7, 10), (101, 19, 25), (5001, 43, 56), (10 ** 12, 43, 56)):
            with self.subTest(worth):
                self.assertEqual(cost_of("hearing", 1, worth, COURT, SPEAKERS), court)
                self.assertEqual(cost_of("filing", 1, worth, COURT, SPEAKERS), 3 * court)
                self.assertEqual(cost_of("speech", 1, worth, COURT, SPEAKERS), speech)

    def test_tables_of_different_limits(self):
        court = [(10, 100), (20, 200)]
        speakers = [(15, 1000), (20, 2000)]
        told = [cost_of(kind, 1, 12, court, speakers) for kind in KINDS[:4]]
        self.assertEqual(told, [600, 200, 1300, 1200])

    def test_a_fee_of_nothing(self):
        for kind in KINDS[:4]:
            self.assertEqual(cost_of(kind, 99, 5, [(9, 0)], [(9, 0)]), 0)

    def test_witness_and_paper_look_at_no_table(self):
        for worth in (0, 101, 10 ** 12):
            self.assertEqual(cost_of("witness", 9999999999, worth, COURT, SPEAKERS), 9999999999)
            self.assertEqual(cost_of("paper", 51, worth, COURT, SPEAKERS), 2515)
        self.assertEqual(cost_of("paper", 9999999, 0, COURT, SPEAKERS), 150001735)

    def test_great_fees(self):
        table = [(1, 9999999)]
        told = [cost_of(kind, 99, 1, table, table) for kind in KINDS[:4]]
        self.assertEqual(told, [2969999703, 989999901, 1286999871, 1187999881])

    def test_somewhat_beyond_the_bounds_nothing_is_refused(self):
        self.assertEqual(cost_of("hearing", 100, 10 ** 13, COURT, SPEAKERS), 4300)


class NothingIsChanged(unittest.TestCase):
    def test_the_tables_are_the_same_afterwards(self):
        court, speakers = list(COURT), list(SPEAKERS)
        for worth in (0, 100, 10 ** 12):
            fee_of(court, worth)
            for kind in KINDS:
                cost_of(kind, 7, worth, court, speakers)
        self.assertEqual(court, [(100, 7), (1000, 19), (5000, 43)])
        self.assertEqual(speakers, [(100, 9), (1000, 21), (5000, 47)])


if __name__ == "__main__":
    unittest.main()
