"""Debts (points 1, 6, 8, 26 and 27)."""

import itertools
import random
import unittest

from costorder.debts import OFFICE, among, interest, settle
from costorder.parts import even

MOST_DUE = 10 ** 14
MOST_PAID = 10 ** 13


class Interest(unittest.TestCase):
    def test_five_for_a_hundred_through_365_days(self):
        self.assertEqual(interest(100 * 365), 5)
        self.assertEqual(interest(1000 * 365), 50)
        self.assertEqual(interest(100 * 730), 10)
        self.assertEqual(interest(2000 * 30), 8)

    def test_nothing_owed(self):
        self.assertEqual(interest(0), 0)

    def test_the_borders_of_a_coin(self):
        self.assertEqual([interest(days) for days in (1, 7299, 7300, 7301)], [0, 0, 1, 1])
        self.assertEqual([interest(days) for days in (14599, 14600, 14601)], [1, 2, 2])
        self.assertEqual([interest(days) for days in (36499, 36500, 36501)], [4, 5, 5])

    def test_rounded_down_once_behind_the_product(self):
        # 36,499 coin-days divided first would be 0.
        self.assertEqual(interest(36499), 4)
        for whole in range(200):
            for beside in (-1, 0, 1):
                days = max(0, whole * 7300 + beside)
                self.assertEqual(interest(days), 5 * days // 36500)
                self.assertTrue(36500 * interest(days) <= 5 * days < 36500 * (interest(days) + 1))

    def test_great_numbers(self):
        self.assertEqual(interest(10 ** 18), 136986301369863)
        # The last coin-day of a coin and the first of the next, where a rounded quotient would be one too much.
        self.assertEqual(interest(7300 * 136986301369863 - 1), 136986301369862)
        self.assertEqual(interest(7300 * 136986301369863), 136986301369863)

    def test_the_answer_is_whole(self):
        for days in (0, 7299, 7300, 10 ** 18):
            self.assertIs(type(interest(days)), int)

    def test_somewhat_beyond_the_bounds_nothing_is_refused(self):
        self.assertEqual(interest(7300 * 10 ** 18), 10 ** 18)


def settle_by_hand(dues):
    """The point's words, step by step."""
    pays = {side: due for side, due in enumerate(dues) if due > 0}
    gets = {side: -due for side, due in enumerate(dues) if due < 0}
    told = []
    while pays and gets:
        payer, getter = min(pays), min(gets)
        coins = pays[payer] if pays[payer] < gets[getter] else gets[getter]
        told.append((payer, getter, coins))
        for left, side in ((pays, payer), (gets, getter)):
            left[side] -= coins
            if left[side] == 0:
                del left[side]
    return told + [(side, -1, pays[side]) for side in sorted(pays)] + [(-1, side, gets[side]) for side in sorted(gets)]


def left_due(dues, told):
    """What is due when everybody has paid as told; the office's coins are not counted."""
    left = list(dues)
    for payer, getter, coins in told:
        if payer != OFFICE:
            left[payer] -= coins
        if getter != OFFICE:
            left[getter] += coins
    return left


class Settle(unittest.TestCase):
    def hold(self, dues):
        told = settle(dues)
        self.assertEqual(told, settle_by_hand(dues), dues)
        self.assertEqual(left_due(dues, told), [0] * len(dues), dues)
        self.assertTrue(all(coins > 0 for payer, getter, coins in told), dues)

    def test_the_office(self):
        self.assertEqual(OFFICE, -1)
        self.assertIs(type(OFFICE), int)

    def test_two_sides_that_sum_to_nought(self):
        self.assertEqual(settle([5, -5]), [(0, 1, 5)])
        self.assertEqual(settle([-5, 5]), [(1, 0, 5)])

    def test_two_sides_with_more_to_pay(self):
        self.assertEqual(settle([8, -5]), [(0, 1, 5), (0, -1, 3)])
        self.assertEqual(settle([-5, 8]), [(1, 0, 5), (1, -1, 3)])

    def test_two_sides_with_more_to_get(self):
        self.assertEqual(settle([5, -8]), [(0, 1, 5), (-1, 1, 3)])
        self.assertEqual(settle([-8, 5]), [(1, 0, 5), (-1, 0, 3)])

    def test_by_one_coin(self):
        self.assertEqual(settle([6, -5]), [(0, 1, 5), (0, -1, 1)])
        self.assertEqual(settle([5, -6]), [(0, 1, 5), (-1, 1, 1)])
        self.assertEqual(settle([1, -1]), [(0, 1, 1)])

    def test_nothing_due(self):
        self.assertEqual(settle([0, 0]), [])
        self.assertEqual(settle([0] * 8), [])

    def test_all_above_nought(self):
        self.assertEqual(settle([7, 3]), [(0, -1, 7), (1, -1, 3)])
        self.assertEqual(settle([8, 7, 6, 5, 4, 3, 2, 1]), [(side, -1, 8 - side) for side in range(8)])

    def test_all_below_nought(self):
        self.assertEqual(settle([-7, -3]), [(-1, 0, 7), (-1, 1, 3)])
        self.assertEqual(settle([-1, -2, -3, -4, -5, -6, -7, -8]), [(-1, side, side + 1) for side in range(8)])

    def test_one_side_alone_has_a_due(self):
        self.assertEqual(settle([0, 4, 0]), [(1, -1, 4)])
        self.assertEqual(settle([0, 0, -4]), [(-1, 2, 4)])

    def test_the_lowest_payer_pays_the_lowest_getter_first(self):
        # By number, not by how many coins: side 0 pays first though side 3 has more to pay.
        self.assertEqual(settle([2, -1, -9, 8]), [(0, 1, 1), (0, 2, 1), (3, 2, 8)])
        self.assertEqual(settle([-9, -1, 2, 8]), [(2, 0, 2), (3, 0, 7), (3, 1, 1)])
        self.assertEqual(settle([4, -4, 4, -4]), [(0, 1, 4), (2, 3, 4)])

    def test_the_same_coins_do_not_make_a_pair(self):
        self.assertEqual(settle([5, 3, -3, -5]), [(0, 2, 3), (0, 3, 2), (1, 3, 3)])

    def test_rests_behind_several_steps(self):
        self.assertEqual(settle([3, -2, 4, 5]), [(0, 1, 2), (0, -1, 1), (2, -1, 4), (3, -1, 5)])
        self.assertEqual(settle([-3, 2, -4, -5]), [(1, 0, 2), (-1, 0, 1), (-1, 2, 4), (-1, 3, 5)])

    def test_eight_sides(self):
        self.assertEqual(settle([10, -3, 0, -4, 6, -20, 1, 2]),
                         [(0, 1, 3), (0, 3, 4), (0, 5, 3), (4, 5, 6), (6, 5, 1), (7, 5, 2), (-1, 5, 8)])

    def test_the_greatest_and_least_dues(self):
        most = MOST_DUE
        self.assertEqual(settle([most, -most]), [(0, 1, most)])
        self.assertEqual(settle([most, 1 - most]), [(0, 1, most - 1), (0, -1, 1)])
        self.assertEqual(settle([most - 1, -most]), [(0, 1, most - 1), (-1, 1, 1)])
        self.assertEqual(settle([most] * 8), [(side, -1, most) for side in range(8)])
        self.assertEqual(settle([-most] * 8), [(-1, side, most) for side in range(8)])
        self.assertEqual(settle([-most] * 4 + [most] * 4), [(side + 4, side, most) for side in range(4)])

    def test_small_inputs_all_through(self):
        for many in (2, 3, 4):
            for dues in itertools.product(range(-3, 4), repeat=many):
                self.hold(list(dues))

    def test_more_sides_and_coins(self):
        chance = random.Random(26)
        for turn in range(400):
            most = chance.choice((2, 9, 10 ** 4, MOST_DUE))
            dues = [chance.randint(-most, most) for side in range(chance.randint(2, 8))]
            if turn % 3 == 0:
                dues[-1] -= sum(dues)
            self.hold(dues)

    def test_the_kinds(self):
        told = settle([8, -5])
        self.assertIsInstance(told, list)
        for entry in told:
            self.assertIsInstance(entry, tuple)
            self.assertEqual([type(value) for value in entry], [int] * 3)

    def test_nothing_is_changed_and_the_answer_is_new(self):
        dues = [8, -5, 2, -9]
        told = settle(dues)
        self.assertEqual(dues, [8, -5, 2, -9])
        told.append((0, 0, 0))
        self.assertEqual(dues, [8, -5, 2, -9])
        self.assertEqual(settle(dues), [(0, 1, 5), (0, 3, 3), (2, 3, 2), (-1, 3, 4)])
        nothing = settle([0, 0])
        nothing.append((0, 1, 2))
        self.assertEqual(settle([0, 0]), [])

    def test_somewhat_beyond_the_bounds_nothing_is_refused(self):
        self.assertEqual(settle([1] * 9), [(side, -1, 1) for side in range(9)])
        self.assertEqual(settle([10 ** 15, -10 ** 15 - 1]), [(0, 1, 10 ** 15), (-1, 1, 1)])
        self.assertEqual(settle([-3]), [(-1, 0, 3)])


class Among(unittest.TestCase):
    def test_one_person_owes_nobody(self):
        for coins in (0, 1, 77, MOST_PAID):
            self.assertEqual(among([coins]), [0])

    def test_without_coins_over(self):
        self.assertEqual(among([10, 0]), [5, -5])
        self.assertEqual(among([0, 10]), [-5, 5])
        self.assertEqual(among([9, 0, 3]), [5, -4, -1])
        self.assertEqual(among([6, 0, 0, 0, 0, 0]), [5, -1, -1, -1, -1, -1])

    def test_coins_over_are_borne_by_the_first_people(self):
        self.assertEqual(among([0, 0, 1]), [-1, 0, 1])
        self.assertEqual(among([1, 0, 0]), [0, 0, 0])
        self.assertEqual(among([0, 5]), [-3, 3])
        self.assertEqual(among([5, 0]), [2, -2])
        self.assertEqual(among([0, 0, 0, 0, 0, 11]), [-2, -2, -2, -2, -2, 10])
        self.assertEqual(among([0, 0, 0, 0, 0, 7]), [-2, -1, -1, -1, -1, 6])

    def test_all_paid_the_same(self):
        self.assertEqual(among([4, 4, 4]), [0, 0, 0])
        self.assertEqual(among([0] * 6), [0] * 6)
        self.assertEqual(among([MOST_PAID] * 6), [0] * 6)

    def test_great_numbers(self):
        self.assertEqual(among([MOST_PAID, 0]), [5 * 10 ** 12, -5 * 10 ** 12])
        # Each of the first four bears 1,666,666,666,667, the others a coin less.
        self.assertEqual(among([0, 0, 0, 0, 0, MOST_PAID]), [-1666666666667] * 4 + [-1666666666666, 8333333333334])
        self.assertEqual(among([MOST_PAID, MOST_PAID - 1]), [0, 0])
        self.assertEqual(among([MOST_PAID - 1, MOST_PAID]), [-1, 1])

    def test_small_inputs_all_through(self):
        for many in range(1, 6):
            for paid in itertools.product(range(4), repeat=many):
                told = among(list(paid))
                self.assertEqual(told, [coins - part for coins, part in zip(paid, even(sum(paid), many))], paid)
                self.assertEqual((len(told), sum(told)), (many, 0))

    def test_the_kinds(self):
        told = among([3, 0])
        self.assertIsInstance(told, list)
        self.assertEqual([type(coins) for coins in told], [int, int])

    def test_nothing_is_changed_and_the_answer_is_new(self):
        paid = [7, 0, 3]
        told = among(paid)
        self.assertEqual(paid, [7, 0, 3])
        told[0] = 99
        told.append(1)
        self.assertEqual(paid, [7, 0, 3])
        self.assertEqual(among(paid), [3, -3, 0])

    def test_somewhat_beyond_the_bounds_nothing_is_refused(self):
        self.assertEqual(among([0] * 6 + [7]), [-1] * 6 + [6])
        self.assertEqual(among([10 ** 14, 0]), [5 * 10 ** 13, -5 * 10 ** 13])


if __name__ == "__main__":
    unittest.main()
