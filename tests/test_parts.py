"""Parts (points 1 and 5 to 7)."""

import itertools
import unittest

from costorder.parts import asked_of, even, losses, share


class Share(unittest.TestCase):
    def test_without_coins_over(self):
        self.assertEqual(share(100, [1, 1], [0, 0]), [50, 50])
        self.assertEqual(share(100, [3, 1], [0, 9]), [75, 25])
        self.assertEqual(share(60, [10, 20, 30], [0, 0, 0]), [10, 20, 30])

    def test_a_coin_over_goes_to_who_lost_more(self):
        # The greater rest stands with side 0, which asked more too; side 1 lost more.
        self.assertEqual(share(11, [1, 2], [9, 0]), [3, 8])
        self.assertEqual(share(11, [2, 1], [0, 9]), [8, 3])

    def test_then_to_who_asked_more(self):
        self.assertEqual(share(101, [1, 1], [3, 5]), [50, 51])
        self.assertEqual(share(101, [1, 1], [5, 3]), [51, 50])

    def test_then_to_the_lower_number(self):
        self.assertEqual(share(101, [1, 1], [5, 5]), [51, 50])
        self.assertEqual(share(1, [4, 4, 4], [0, 0, 0]), [1, 0, 0])

    def test_several_coins_over(self):
        self.assertEqual(share(5, [3, 3, 3, 0], [1, 2, 3, 99]), [1, 2, 2, 0])
        # 20 * 5 / 13 is 7.7, 20 * 4 / 13 is 6.2: 7, 6 and 6 leave one coin, for who lost most.
        self.assertEqual(share(20, [4, 5, 4], [9, 0, 8]), [6, 8, 6])
        # 7 * 3 / 11 is 1.9, 7 * 2 / 11 is 1.3: 1, 1, 1 and 1 leave three coins.
        self.assertEqual(share(7, [3, 2, 3, 3], [0, 7, 5, 5]), [2, 1, 2, 2])
        self.assertEqual(share(6, [3, 2, 3, 3], [0, 7, 5, 5]), [1, 1, 2, 2])
        # 1, 1 and 2 leave two coins: one for who lost most, one for who asked more of the other two.
        self.assertEqual(share(6, [2, 2, 3], [1, 2, 0]), [1, 2, 3])

    def test_who_lost_nothing_bears_nothing(self):
        self.assertEqual(share(77, [0, 5], [10 ** 12, 0]), [0, 77])
        self.assertEqual(share(77, [5, 0], [0, 10 ** 12]), [77, 0])
        self.assertEqual(share(8, [0, 3, 0, 3, 3, 0], [9, 1, 9, 2, 1, 9]), [0, 3, 0, 3, 2, 0])

    def test_a_cost_of_nothing(self):
        self.assertEqual(share(0, [1, 2], [3, 4]), [0, 0])
        self.assertEqual(share(0, [0, 0, 10 ** 12], [0, 0, 0]), [0, 0, 0])

    def test_a_cost_below_the_number_of_sides(self):
        self.assertEqual(share(2, [1, 1, 1], [0, 4, 4]), [0, 1, 1])
        self.assertEqual(share(1, [1, 10 ** 12], [10 ** 12, 0]), [0, 1])

    def test_great_numbers(self):
        most = 10 ** 12
        self.assertEqual(share(most, [most, most - 1], [0, most]), [500000000001, 499999999999])
        self.assertEqual(share(most + 1, [most, most], [0, most]), [500000000000, 500000000001])
        self.assertEqual(share(most, [most, 1], [0, 0]), [most, 0])
        # The cost times side 0's loss is one below 460533289187 times the sum: a rounded quotient would be one too much.
        self.assertEqual(share(most, [568559611163, 666008278960], [9, 0]), [460533289186, 539466710814])
        self.assertEqual(share(9999999999, [most] * 3, [0, 0, 0]), [3333333333] * 3)

    def test_eight_sides(self):
        asked = [0, 1, 2, 3, 3, 2, 1, 0]
        self.assertEqual(share(8, [1] * 8, asked), [1] * 8)
        self.assertEqual(share(11, [1] * 8, asked), [1, 1, 2, 2, 2, 1, 1, 1])
        self.assertEqual(share(15, [1] * 8, asked), [2, 2, 2, 2, 2, 2, 2, 1])
        # Rounded down 1, 2, 4, 5, 6, 8, 9 and 11: four coins over, for the four that lost most.
        self.assertEqual(share(50, [1, 2, 3, 4, 5, 6, 7, 8], asked), [1, 2, 4, 5, 7, 9, 10, 12])

    def by_hand(self, cost, lost, asked):
        """The point's words, coin by coin: whoever stands first of those not yet served gets the next one."""
        told = [(cost * each - cost * each % sum(lost)) // sum(lost) for each in lost]
        waiting = list(range(len(lost)))
        while sum(told) < cost:
            first = waiting[0]
            for side in waiting[1:]:
                if lost[side] > lost[first] or (lost[side] == lost[first] and asked[side] > asked[first]):
                    first = side
            waiting.remove(first)
            told[first] += 1
        return told

    def test_small_inputs_all_through(self):
        for lost in itertools.product(range(4), repeat=3):
            if sum(lost) == 0:
                continue
            for asked in itertools.product(range(3), repeat=3):
                for cost in range(11):
                    told = share(cost, list(lost), list(asked))
                    self.assertEqual(told, self.by_hand(cost, lost, asked), (cost, lost, asked))
                    self.assertEqual(sum(told), cost)
                    self.assertTrue(all(part == 0 for part, each in zip(told, lost) if each == 0))

    def test_nothing_is_changed_and_the_answer_is_new(self):
        lost, asked = [3, 1, 3], [0, 2, 5]
        told = share(10, lost, asked)
        self.assertEqual((lost, asked), ([3, 1, 3], [0, 2, 5]))
        self.assertIsInstance(told, list)
        told[0] = 99
        told.append(4)
        self.assertEqual((lost, asked), ([3, 1, 3], [0, 2, 5]))
        self.assertEqual(share(10, lost, asked), [4, 1, 5])

    def test_somewhat_beyond_the_bounds_nothing_is_refused(self):
        self.assertEqual(share(10, [1] * 9, [0] * 9), [2] + [1] * 8)
        self.assertEqual(share(10 ** 13, [10 ** 13, 10 ** 13], [0, 0]), [5 * 10 ** 12] * 2)


class Even(unittest.TestCase):
    def test_coins_that_can_be_parted(self):
        self.assertEqual(even(12, 3), [4, 4, 4])
        self.assertEqual(even(6, 6), [1] * 6)

    def test_coins_over_go_to_the_first_people(self):
        self.assertEqual(even(13, 3), [5, 4, 4])
        self.assertEqual(even(14, 3), [5, 5, 4])
        self.assertEqual(even(11, 6), [2, 2, 2, 2, 2, 1])
        self.assertEqual(even(1, 6), [1, 0, 0, 0, 0, 0])
        self.assertEqual(even(5, 6), [1, 1, 1, 1, 1, 0])

    def test_no_coins(self):
        for many in range(1, 7):
            self.assertEqual(even(0, many), [0] * many)

    def test_one_person(self):
        for coins in (0, 1, 7, 10 ** 14):
            self.assertEqual(even(coins, 1), [coins])

    def test_great_numbers(self):
        self.assertEqual(even(10 ** 14, 6), [16666666666667] * 4 + [16666666666666] * 2)
        self.assertEqual(even(10 ** 14, 3), [33333333333334, 33333333333333, 33333333333333])

    def test_the_parts_sum_to_the_coins(self):
        for coins in range(40):
            for many in range(1, 7):
                told = even(coins, many)
                self.assertEqual((len(told), sum(told)), (many, coins))
                self.assertEqual(told, sorted(told, reverse=True))
                self.assertLessEqual(told[0] - told[-1], 1)

    def test_the_answer_is_new(self):
        told = even(7, 2)
        self.assertIsInstance(told, list)
        told[0] = 99
        self.assertEqual(even(7, 2), [4, 3])

    def test_somewhat_beyond_the_bounds_nothing_is_refused(self):
        self.assertEqual(even(10 ** 15 + 1, 7), [142857142857143] * 7)
        self.assertEqual(even(8, 7), [2, 1, 1, 1, 1, 1, 1])


CLAIMS = [(0, 0, 1, 100), (7, 0, 2, 50), (3, 1, 0, 30), (19, 2, 1, 8)]


class Losses(unittest.TestCase):
    def test_no_claim(self):
        self.assertEqual(losses(2, [], []), [0, 0])
        self.assertEqual(losses(8, [], []), [0] * 8)

    def test_one_claim(self):
        self.assertEqual(losses(2, [(5, 0, 1, 100)], [30]), [70, 30])
        self.assertEqual(losses(2, [(5, 1, 0, 100)], [30]), [30, 70])

    def test_nothing_won_and_all_won(self):
        self.assertEqual(losses(3, [(5, 0, 2, 100)], [0]), [100, 0, 0])
        self.assertEqual(losses(3, [(5, 0, 2, 100)], [100]), [0, 0, 100])

    def test_the_same_asker(self):
        self.assertEqual(losses(3, [(0, 0, 1, 100), (1, 0, 2, 50)], [40, 50]), [60, 40, 50])

    def test_the_same_answerer(self):
        self.assertEqual(losses(3, [(0, 0, 1, 100), (1, 2, 1, 50)], [40, 20]), [60, 60, 30])

    def test_the_same_two_sides_both_ways(self):
        claims = [(0, 0, 1, 100), (1, 0, 1, 10), (2, 1, 0, 7)]
        self.assertEqual(losses(2, claims, [1, 10, 3]), [102, 15])

    def test_claims_across(self):
        # Side 0: 60 + 0 + 10, side 1: 40 + 20 + 0, side 2: 50 + 8.
        self.assertEqual(losses(4, CLAIMS, [40, 50, 10, 0]), [70, 60, 58, 0])

    def test_all_losses_sum_to_all_worths(self):
        for wins in itertools.product((0, 1, 8), repeat=4):
            self.assertEqual(sum(losses(3, CLAIMS, list(wins))), 188)

    def test_twenty_great_claims_of_eight_sides(self):
        claims = [(k, k % 8, (k + 1) % 8, 9999999999) for k in range(20)]
        told = losses(8, claims, [9999999999] * 20)
        self.assertEqual(told, [9999999999 * many for many in (2, 3, 3, 3, 3, 2, 2, 2)])

    def test_nothing_is_changed_and_the_answer_is_new(self):
        claims, wins = list(CLAIMS), [40, 50, 10, 0]
        told = losses(3, claims, wins)
        self.assertIsInstance(told, list)
        told[0] = 99
        self.assertEqual((claims, wins), (CLAIMS, [40, 50, 10, 0]))
        self.assertEqual(losses(3, claims, wins), [70, 60, 58])

    def test_somewhat_beyond_the_bounds_nothing_is_refused(self):
        claims = [(k, 8, 0, 10 ** 10) for k in range(21)]
        self.assertEqual(losses(9, claims, [1] * 21), [21] + [0] * 7 + [21 * (10 ** 10 - 1)])


class AskedOf(unittest.TestCase):
    def test_no_claim(self):
        self.assertEqual(asked_of(2, []), [0, 0])
        self.assertEqual(asked_of(8, []), [0] * 8)

    def test_sums_for_the_asker_alone(self):
        self.assertEqual(asked_of(2, [(5, 1, 0, 100)]), [0, 100])
        self.assertEqual(asked_of(4, CLAIMS), [150, 30, 8, 0])

    def test_the_same_asker_and_the_same_answerer(self):
        self.assertEqual(asked_of(3, [(0, 0, 1, 100), (1, 0, 1, 50), (2, 2, 1, 9)]), [150, 0, 9])

    def test_twenty_great_claims(self):
        claims = [(k, 7, k % 7, 9999999999) for k in range(20)]
        self.assertEqual(asked_of(8, claims), [0] * 7 + [199999999980])

    def test_nothing_is_changed_and_the_answer_is_new(self):
        claims = list(CLAIMS)
        told = asked_of(3, claims)
        self.assertIsInstance(told, list)
        told[0] = 99
        self.assertEqual(claims, CLAIMS)
        self.assertEqual(asked_of(3, claims), [150, 30, 8])

    def test_somewhat_beyond_the_bounds_nothing_is_refused(self):
        self.assertEqual(asked_of(9, [(20, 8, 0, 10 ** 11)] * 21), [0] * 8 + [21 * 10 ** 11])


if __name__ == "__main__":
    unittest.main()
