"""The bill of all sides together (points 4, 5, 7, 12 and 20 to 23)."""

import random
import unittest

from costorder.lines import lines_of, won_on
from writing import COURT, SPEAKERS, Stand, all_due, chance_deed, line_by_hand, row_of, won_by_hand, write

LAST = 6000

# Side 0 asks side 1 for 100 coins, side 2 asks side 0 for 40.
TWO = [("claim", 3, 0, 0, 1, 100), ("claim", 3, 7, 2, 0, 40)]


def paper(day, turn, side, pages, laid="none"):
    return ("step", day, turn, side, "paper", pages, laid)


def witness(day, turn, side, coins, laid="none"):
    return ("step", day, turn, side, "witness", coins, laid)


def tell(deeds, day=LAST, sides=3):
    return lines_of(sides, COURT, SPEAKERS, write(deeds), day)


def reasons(deeds, day=LAST):
    return [reason for row, turn, cost, reason, parts in tell(deeds, day)]


def parts_of(deeds, day=LAST):
    return [parts for row, turn, cost, reason, parts in tell(deeds, day)]


class WhichLines(unittest.TestCase):
    def test_no_row(self):
        self.assertEqual(tell([]), [])

    def test_rows_without_a_step(self):
        self.assertEqual(tell(TWO + [("offer", 3, 0, 0, 5), ("pay", 3, 0, 0, 9), ("dun", 3, 1),
                                     ("rule", 4, 0, [(0, 5)], False), ("carry", 4, 0)]), [])

    def test_a_tuple_for_each_step_in_the_order_of_the_rows(self):
        told = tell(TWO + [witness(3, 0, 1, 5), ("pay", 3, 0, 0, 9), witness(4, 0, 0, 7, "late"), witness(4, 0, 2, 0)])
        self.assertEqual(told, [(2, 0, 5, "open", (0, 5, 0)), (4, 0, 7, "late", (7, 0, 0)), (5, 0, 0, "open", (0, 0, 0))])
        self.assertIsInstance(told, list)
        for line in told:
            self.assertIsInstance(line, tuple)
            self.assertIsInstance(line[4], tuple)

    def test_the_numbers_of_the_rows_are_told(self):
        # Rows 0 and 3 to 6 were undone.
        kept = [row_of(1, TWO[0]), row_of(2, TWO[1]), row_of(7, witness(3, 0, 0, 9)), row_of(8, witness(3, 0, 1, 9))]
        self.assertEqual([line[0] for line in lines_of(3, COURT, SPEAKERS, kept, LAST)], [7, 8])

    def test_steps_with_no_later_day_alone(self):
        deeds = TWO + [witness(3, 0, 1, 5), witness(5, 0, 1, 6), witness(5, 0, 1, 7), witness(6, 0, 1, 8)]
        self.assertEqual([len(tell(deeds, day)) for day in (0, 2, 3, 4, 5, 6, LAST)], [0, 0, 1, 1, 3, 4, 4])

    def test_a_ruling_of_a_later_day_does_not_stand(self):
        deeds = TWO + [witness(3, 0, 1, 14), ("rule", 5, 0, [(0, 100)], False)]
        self.assertEqual(tell(deeds, 4), [(2, 0, 14, "open", (0, 14, 0))])
        # Side 1 lost 100 and side 2 lost 40.
        self.assertEqual(tell(deeds, 5), [(2, 0, 14, "parts", (0, 10, 4))])

    def test_two_sides_and_eight(self):
        for sides in (2, 8):
            deeds = [("claim", 0, 0, sides - 1, 0, 10), witness(0, 0, sides - 1, 20), ("rule", 1, 0, [(0, 4)], False)]
            self.assertEqual(tell(deeds, 0, sides)[0][4], (0,) * (sides - 1) + (20,))
            self.assertEqual(tell(deeds, 1, sides)[0][4], (8,) + (0,) * (sides - 2) + (12,))

    def test_the_answer_is_new_and_nothing_is_changed(self):
        kept, court, speakers = write(TWO + [witness(3, 0, 1, 5)]), list(COURT), list(SPEAKERS)
        told = lines_of(3, court, speakers, kept, LAST)
        told.append("more")
        self.assertEqual(kept, write(TWO + [witness(3, 0, 1, 5)]))
        self.assertEqual((court, speakers), (COURT, SPEAKERS))
        self.assertEqual(lines_of(3, court, speakers, kept, LAST), [(2, 0, 5, "open", (0, 5, 0))])


class Costs(unittest.TestCase):
    def costs(self, deeds, day=LAST):
        return [cost for row, turn, cost, reason, parts in tell(deeds, day)]

    def test_each_kind(self):
        # The worth is 140: the court's fee is 45 and the speakers' 70.
        deeds = TWO + [("step", 3, 0, 0, kind, 3, "none") for kind in
                       ("filing", "hearing", "plea", "speech", "witness", "paper")]
        self.assertEqual(self.costs(deeds), [405, 135, 273, 252, 3, 150])

    def test_many_of_nought(self):
        deeds = TWO + [("step", 3, 0, 0, kind, 0, "none") for kind in
                       ("filing", "hearing", "plea", "speech", "witness", "paper")]
        self.assertEqual(self.costs(deeds), [0] * 6)

    def test_many_pages(self):
        self.assertEqual(self.costs(TWO + [paper(3, 0, 0, pages) for pages in (49, 50, 51)]), [2450, 2500, 2515])

    def test_the_worth_goes_by_the_rows_before_the_step(self):
        filing = ("step", 3, 0, 0, "filing", 1, "none")
        deeds = [TWO[0], filing, TWO[1], filing, ("claim", 3, 1, 1, 2, 9999), filing]
        self.assertEqual(self.costs(deeds), [60, 135, 270])
        self.assertEqual(self.costs(deeds + [("rule", 9, 0, [], False)]), [60, 135, 270])

    def test_each_round_has_its_own_worth(self):
        filing = [("step", 9, turn, 0, "filing", 1, "none") for turn in (0, 1, 2)]
        deeds = [("claim", 3, 0, 0, 1, 100), ("claim", 3, 1, 0, 1, 1000), filing[0], ("rule", 9, 0, [], False),
                 ("carry", 9, 0), filing[1], ("carry", 9, 1), filing[1], ("rule", 9, 1, [], False),
                 ("carry", 9, 1), filing[2]]
        self.assertEqual(self.costs(deeds), [270, 60, 270, 135])

    def test_a_claim_that_no_longer_stands_counts_for_no_cost(self):
        filing = ("step", 3, 0, 0, "filing", 1, "none")
        kept = [row_of(0, TWO[0]), row_of(2, filing)]
        self.assertEqual(lines_of(3, COURT, SPEAKERS, kept, LAST)[0][2], 60)
        kept = [row_of(0, TWO[0]), row_of(1, TWO[1]), row_of(2, filing)]
        self.assertEqual(lines_of(3, COURT, SPEAKERS, kept, LAST)[0][2], 135)

    def test_offers_and_rulings_change_no_cost(self):
        deeds = TWO + [("offer", 3, 0, 0, 50), ("step", 4, 0, 0, "filing", 1, "none"), ("rule", 5, 0, [(0, 50)], False)]
        self.assertEqual(self.costs(deeds, 4), [135])
        self.assertEqual(self.costs(deeds, 5), [135])


class Laid(unittest.TestCase):
    def test_late_and_much_are_borne_by_their_side_whatever_comes(self):
        deeds = TWO + [("offer", 3, 0, 0, 60), witness(4, 0, 1, 9, "late"), witness(4, 0, 2, 8, "much"),
                       ("rule", 5, 0, [(0, 60)], False), ("carry", 6, 0), ("rule", 7, 1, [(0, 100)], True)]
        told = [(3, 0, 9, "late", (0, 9, 0)), (4, 0, 8, "much", (0, 0, 8))]
        for day in (4, 5, 6, 7, LAST):
            self.assertEqual(tell(deeds, day), told)

    def test_in_a_later_round_too(self):
        deeds = TWO + [("rule", 5, 0, [], False), ("carry", 6, 0), witness(6, 1, 2, 8, "much"), ("rule", 7, 1, [], False)]
        self.assertEqual(tell(deeds), [(4, 1, 8, "much", (0, 0, 8))])


class Open(unittest.TestCase):
    def test_borne_by_its_side_for_now(self):
        deeds = TWO + [witness(4, 0, 0, 5), witness(4, 0, 1, 6), witness(4, 0, 2, 7)]
        self.assertEqual(parts_of(deeds), [(5, 0, 0), (0, 6, 0), (0, 0, 7)])
        self.assertEqual(reasons(deeds), ["open"] * 3)

    def test_an_offer_changes_nothing_while_the_round_is_not_over(self):
        self.assertEqual(tell(TWO + [("offer", 3, 0, 0, 100), witness(4, 0, 1, 6)]), [(3, 0, 6, "open", (0, 6, 0))])

    def test_each_round_by_itself(self):
        deeds = TWO + [witness(4, 0, 1, 14), ("rule", 5, 0, [], False), ("carry", 6, 0), witness(6, 1, 1, 14)]
        self.assertEqual(tell(deeds), [(2, 0, 14, "parts", (10, 0, 4)), (5, 1, 14, "open", (0, 14, 0))])


class Parts(unittest.TestCase):
    def test_by_what_each_side_lost(self):
        # Side 0 lost 40 of claim 0 and 10 of claim 7, side 1 lost 60, side 2 lost 30.
        deeds = TWO + [witness(4, 0, 1, 140), ("rule", 5, 0, [(0, 60), (7, 10)], False)]
        self.assertEqual(tell(deeds), [(2, 0, 140, "parts", (50, 60, 30))])

    def test_a_claim_that_is_not_named_has_won_nothing(self):
        for wins in ([], [(0, 0)], [(7, 0)], [(7, 0), (0, 0)]):
            self.assertEqual(parts_of(TWO + [witness(4, 0, 1, 14), ("rule", 5, 0, wins, False)]), [(10, 0, 4)])
        self.assertEqual(parts_of(TWO + [witness(4, 0, 1, 14), ("rule", 5, 0, [(7, 40)], False)]), [(14, 0, 0)])

    def test_claims_that_came_behind_the_step_count(self):
        deeds = [TWO[0], witness(3, 0, 1, 14), TWO[1], ("rule", 5, 0, [], False)]
        self.assertEqual(parts_of(deeds), [(10, 0, 4)])

    def test_coins_over_go_to_who_lost_more_then_to_who_asked_more(self):
        deeds = [("claim", 0, 0, 0, 1, 10), ("claim", 0, 1, 1, 2, 20), witness(0, 0, 0, 1)]
        # Side 0 and side 1 lost 10 each, and side 2 lost 10 too: side 1 asked most.
        self.assertEqual(parts_of(deeds + [("rule", 1, 0, [(1, 10)], False)]), [(0, 1, 0)])
        # Side 0 lost 0, side 1 lost 10 and 9, side 2 lost 11.
        self.assertEqual(parts_of(deeds + [("rule", 1, 0, [(0, 10), (1, 11)], False)]), [(0, 1, 0)])
        self.assertEqual(parts_of(deeds + [("rule", 1, 0, [(0, 0), (1, 20)], False)]), [(0, 0, 1)])

    def test_by_the_claims_of_the_own_round_alone(self):
        deeds = TWO + [("rule", 5, 0, [(0, 60), (7, 10)], False), ("carry", 6, 7), witness(6, 1, 0, 40),
                       ("rule", 7, 1, [(7, 30)], False)]
        self.assertEqual(tell(deeds), [(4, 1, 40, "parts", (30, 0, 10))])

    def test_a_cost_of_nothing(self):
        self.assertEqual(tell(TWO + [witness(4, 0, 1, 0), ("rule", 5, 0, [], False)]), [(2, 0, 0, "parts", (0, 0, 0))])

    def test_great_numbers(self):
        most = 9999999999
        deeds = [("claim", 0, claim, claim % 7, 7, most) for claim in range(20)]
        deeds += [witness(0, 0, 7, most), ("rule", 0, 0, [(claim, most) for claim in range(19)], False)]
        # Side 7 lost nineteen worths and side 5 (claim 19) one.
        self.assertEqual(tell(deeds, 0, 8), [(20, 0, most, "parts", (0, 0, 0, 0, 0, 499999999, 0, 9500000000))])


class LookingBack(unittest.TestCase):
    def both(self, first, second, back):
        """Round 0 with both claims, then round 1 with both: a step of 140 coins in each."""
        return TWO + [witness(4, 0, 1, 140), ("rule", 5, 0, first, False), ("carry", 6, 0), ("carry", 6, 7),
                      witness(6, 1, 1, 140), ("rule", 7, 1, second, back)]

    def test_without_back_a_ruling_speaks_of_its_own_round_alone(self):
        deeds = self.both([(0, 60), (7, 10)], [(0, 100)], False)
        self.assertEqual(parts_of(deeds), [(50, 60, 30), (0, 100, 40)])

    def test_with_back_it_speaks_of_the_earlier_round_too(self):
        deeds = self.both([(0, 60), (7, 10)], [(0, 100), (7, 10)], True)
        self.assertEqual(parts_of(deeds), [(10, 100, 30), (10, 100, 30)])

    def test_what_it_does_not_name_has_won_nothing_in_the_earlier_round_too(self):
        deeds = self.both([(0, 60), (7, 10)], [(0, 100)], True)
        self.assertEqual(parts_of(deeds), [(0, 100, 40), (0, 100, 40)])
        self.assertEqual(parts_of(self.both([(0, 60), (7, 10)], [], True)), [(100, 0, 40), (100, 0, 40)])

    def test_claims_that_were_not_carried_keep_their_own_word(self):
        deeds = TWO + [witness(4, 0, 1, 140), ("rule", 5, 0, [(0, 60), (7, 10)], False), ("carry", 6, 7),
                       ("rule", 7, 1, [(7, 40)], True)]
        self.assertEqual(parts_of(deeds), [(80, 60, 0)])

    def test_back_of_round_0_changes_nothing(self):
        deeds = TWO + [witness(4, 0, 1, 140), ("rule", 5, 0, [(0, 60), (7, 10)], True)]
        self.assertEqual(parts_of(deeds), [(50, 60, 30)])

    def test_a_later_word_changes_bills_from_its_day_on(self):
        deeds = self.both([(0, 60), (7, 10)], [(0, 100), (7, 10)], True)
        self.assertEqual(parts_of(deeds, 4), [(0, 140, 0)])
        self.assertEqual(parts_of(deeds, 5), [(50, 60, 30)])
        self.assertEqual(parts_of(deeds, 6), [(50, 60, 30), (0, 140, 0)])
        self.assertEqual(parts_of(deeds, 7), [(10, 100, 30), (10, 100, 30)])

    def three(self, second_back, third_back, third_claims=(0, 7)):
        """Claim 0 won 10, 20 and 30 of 100 in the three rounds, claim 7 won 1, 2 and 3 of 40."""
        deeds = TWO + [witness(4, 0, 1, 140), ("rule", 5, 0, [(0, 10), (7, 1)], False), ("carry", 6, 0), ("carry", 6, 7),
                       witness(6, 1, 1, 140), ("rule", 7, 1, [(0, 20), (7, 2)], second_back)]
        deeds += [("carry", 8, claim) for claim in third_claims]
        deeds.append(witness(8, 2, 1, 140))
        wins = [(claim, won) for claim, won in ((0, 30), (7, 3)) if claim in third_claims]
        return deeds + [("rule", 9, 2, wins, third_back)]

    def test_of_several_the_latest_word_counts(self):
        own = {0: (91, 10, 39), 1: (82, 20, 38), 2: (73, 30, 37)}
        for second_back, third_back, heard in ((False, False, (0, 1, 2)), (True, False, (1, 1, 2)),
                                               (False, True, (2, 2, 2)), (True, True, (2, 2, 2))):
            self.assertEqual(parts_of(self.three(second_back, third_back)), [own[turn] for turn in heard])

    def test_a_claim_that_went_only_to_round_1_hears_round_1(self):
        # Claim 7 stands in round 2, claim 0 in rounds 0 and 1 alone.
        deeds = self.three(True, True, (7,))
        self.assertEqual(parts_of(deeds)[:2], [(83, 20, 37), (83, 20, 37)])
        deeds = self.three(False, True, (7,))
        self.assertEqual(parts_of(deeds)[:2], [(93, 10, 37), (83, 20, 37)])

    def test_the_words_as_they_came_day_by_day(self):
        deeds = self.three(True, True)
        self.assertEqual([parts_of(deeds, day)[0] for day in (4, 5, 6, 7, 8, 9)],
                         [(0, 140, 0), (91, 10, 39), (91, 10, 39), (82, 20, 38), (82, 20, 38), (73, 30, 37)])


class Offers(unittest.TestCase):
    def with_offer(self, offer_day, amount, wins=((0, 60), (7, 10)), claim=0):
        """An offer, then a step of day 4; the rows come in the order of their days."""
        deeds = [("offer", offer_day, 0, claim, amount), witness(4, 0, 1, 140)]
        return TWO + sorted(deeds, key=lambda deed: deed[1]) + [("rule", 9, 0, list(wins), False)]

    def test_an_offer_no_less_than_what_was_won_turns_the_claim(self):
        # Claim 0 has won 0 for this cost: side 0 lost 100 and 10.
        for amount in (60, 61, 100):
            told = tell(self.with_offer(3, amount))[0]
            self.assertEqual(told[3:], ("offer", (110, 0, 30)))

    def test_a_lesser_offer_does_not(self):
        for amount in (0, 1, 59):
            told = tell(self.with_offer(3, amount))[0]
            self.assertEqual(told[3:], ("parts", (50, 60, 30)))

    def test_an_offer_of_the_cost_s_day_does(self):
        self.assertEqual(reasons(self.with_offer(4, 60)), ["offer"])

    def test_even_where_its_row_comes_behind_the_step(self):
        deeds = TWO + [witness(4, 0, 1, 140), ("offer", 4, 0, 0, 60), ("rule", 9, 0, [(0, 60), (7, 10)], False)]
        self.assertEqual(reasons(deeds), ["offer"])

    def test_an_offer_of_a_later_day_does_not(self):
        for day in (5, 6, 9):
            told = tell(self.with_offer(day, 60))[0]
            self.assertEqual(told[3:], ("parts", (50, 60, 30)))

    def test_a_claim_that_won_nothing_is_not_turned(self):
        for amount in (0, 1, 100):
            told = tell(self.with_offer(3, amount, ((7, 10),)))[0]
            self.assertEqual(told[3:], ("parts", (100 + 10, 0, 30)))

    def test_a_claim_that_won_one_coin_is(self):
        self.assertEqual(reasons(self.with_offer(3, 1, ((0, 1),))), ["offer"])
        self.assertEqual(reasons(self.with_offer(3, 0, ((0, 1),))), ["parts"])

    def test_an_offer_turns_its_own_claim_alone(self):
        # Claim 7 is turned: side 2 lost 40, side 0 lost 40 of claim 0, side 1 lost 60.
        told = tell(self.with_offer(3, 10, claim=7))[0]
        self.assertEqual(told[3:], ("offer", (40, 60, 40)))

    def test_several_claims_are_turned(self):
        deeds = TWO + [("offer", 3, 0, 0, 60), ("offer", 3, 0, 7, 10), witness(4, 0, 1, 140),
                       ("rule", 9, 0, [(0, 60), (7, 10)], False)]
        self.assertEqual(tell(deeds), [(4, 0, 140, "offer", (100, 0, 40))])

    def test_the_reason_is_offer_where_no_part_differs_too(self):
        deeds = TWO + [("offer", 3, 0, 0, 60), witness(4, 0, 1, 0), ("rule", 9, 0, [(0, 60)], False)]
        self.assertEqual(tell(deeds), [(3, 0, 0, "offer", (0, 0, 0))])

    def test_each_cost_by_its_own_day(self):
        deeds = TWO + [witness(4, 0, 1, 140), ("offer", 5, 0, 0, 60), witness(5, 0, 1, 140), witness(6, 0, 1, 140),
                       ("rule", 9, 0, [(0, 60), (7, 10)], False)]
        self.assertEqual(reasons(deeds), ["parts", "offer", "offer"])
        self.assertEqual(parts_of(deeds), [(50, 60, 30), (110, 0, 30), (110, 0, 30)])

    def test_of_several_offers_one_is_enough(self):
        for first, second in ((60, 1), (1, 60)):
            deeds = TWO + [("offer", 3, 0, 0, first), ("offer", 4, 0, 0, second), witness(4, 0, 1, 140),
                           ("rule", 9, 0, [(0, 60)], False)]
            self.assertEqual(reasons(deeds), ["offer"])

    def test_offers_do_not_add_up(self):
        deeds = TWO + [("offer", 3, 0, 0, 30), ("offer", 4, 0, 0, 30), witness(4, 0, 1, 140), ("rule", 9, 0, [(0, 60)], False)]
        self.assertEqual(reasons(deeds), ["parts"])

    def test_a_great_offer_too_late_beside_a_small_one_in_time(self):
        deeds = TWO + [("offer", 3, 0, 0, 59), witness(4, 0, 1, 140), ("offer", 5, 0, 0, 60), ("rule", 9, 0, [(0, 60)], False)]
        self.assertEqual(reasons(deeds), ["parts"])

    def test_an_offer_counts_in_its_own_round_alone(self):
        deeds = TWO + [("offer", 3, 0, 0, 60), ("rule", 5, 0, [(0, 60)], False), ("carry", 6, 0), witness(6, 1, 1, 100),
                       ("rule", 7, 1, [(0, 60)], False)]
        self.assertEqual(tell(deeds), [(5, 1, 100, "parts", (40, 60, 0))])
        deeds = TWO + [witness(6, 0, 1, 140), ("rule", 6, 0, [(0, 60), (7, 10)], False), ("carry", 6, 0),
                       ("offer", 6, 1, 0, 60), witness(6, 1, 1, 100), ("rule", 7, 1, [(0, 60)], False)]
        self.assertEqual([line[3:] for line in tell(deeds)], [("parts", (50, 60, 30)), ("offer", (100, 0, 0))])

    def test_what_was_won_goes_by_the_later_word(self):
        def deeds(second, back):
            return TWO + [("offer", 3, 0, 0, 60), witness(4, 0, 1, 140), ("rule", 5, 0, [(0, 60), (7, 10)], False),
                          ("carry", 6, 0), ("rule", 7, 1, [(0, second)], back)]
        # Day 5: turned. From day 7 on the claim has won more than was offered, or nothing, or less.
        self.assertEqual(tell(deeds(61, True), 5)[0][3:], ("offer", (110, 0, 30)))
        self.assertEqual(tell(deeds(61, True), 6)[0][3:], ("offer", (110, 0, 30)))
        self.assertEqual(tell(deeds(61, True), 7)[0][3:], ("parts", (49, 61, 30)))
        self.assertEqual(tell(deeds(0, True), 7)[0][3:], ("parts", (110, 0, 30)))
        self.assertEqual(tell(deeds(20, True), 7)[0][3:], ("offer", (110, 0, 30)))
        self.assertEqual(tell(deeds(61, False), 7)[0][3:], ("offer", (110, 0, 30)))

    def test_a_later_word_may_turn_a_claim(self):
        deeds = TWO + [("offer", 3, 0, 0, 50), witness(4, 0, 1, 140), ("rule", 5, 0, [(0, 60), (7, 10)], False),
                       ("carry", 6, 0), ("rule", 7, 1, [(0, 50)], True)]
        self.assertEqual(reasons(deeds, 6), ["parts"])
        self.assertEqual(reasons(deeds, 7), ["offer"])

    def test_an_offer_that_no_longer_stands_turns_nothing(self):
        kept = write(self.with_offer(3, 60))
        self.assertEqual(lines_of(3, COURT, SPEAKERS, kept, LAST)[0][3], "offer")
        without = kept[:2] + kept[3:]
        self.assertEqual(lines_of(3, COURT, SPEAKERS, without, LAST)[0][3:], ("parts", (50, 60, 30)))

    def test_an_offer_counts_wherever_its_row_stands(self):
        kept = write(TWO + [witness(4, 0, 1, 140), ("rule", 9, 0, [(0, 60), (7, 10)], False)])
        more = kept + [row_of(4, ("offer", 3, 0, 0, 60))]
        self.assertEqual(lines_of(3, COURT, SPEAKERS, more, LAST)[0][3:], ("offer", (110, 0, 30)))


class Won(unittest.TestCase):
    def test_nothing_before_the_ruling_s_day(self):
        kept = write(TWO + [("rule", 9, 0, [(0, 60)], False)])
        self.assertEqual([won_on(kept, 0, 0, day) for day in (2, 3, 8, 9, 10)], [0, 0, 0, 60, 60])
        self.assertEqual(won_on(kept, 0, 7, 9), 0)

    def test_by_the_later_word_from_its_day_on(self):
        kept = write(TWO + [("rule", 5, 0, [(0, 60), (7, 10)], False), ("carry", 6, 0), ("rule", 7, 1, [(0, 61)], True)])
        self.assertEqual([won_on(kept, 0, 0, day) for day in (5, 6, 7)], [60, 60, 61])
        self.assertEqual([won_on(kept, 1, 0, day) for day in (5, 6, 7)], [0, 0, 61])
        self.assertEqual([won_on(kept, 0, 7, day) for day in (5, 6, 7)], [10, 10, 10])

    def test_a_claim_that_is_not_there(self):
        kept = write(TWO + [("rule", 9, 0, [(0, 60)], False)])
        self.assertEqual([won_on(kept, turn, claim, 9) for turn, claim in ((0, 1), (1, 0), (2, 0), (3, 0))], [0] * 4)


class ByChance(unittest.TestCase):
    def chance_deeds(self, chance, sides):
        deeds = [("claim", 1, claim, 0, 1, chance.randint(1, 9)) for claim in range(chance.randint(1, 4))]
        while len(deeds) < 60:
            deed = chance_deed(chance, deeds[-1][1] + chance.choice((0, 0, 1)), sides)
            if deed[0] == "rule" and chance.random() < 0.4:
                continue
            if not all_due(deeds, len(deeds), deed):
                deeds.append(deed)
        return deeds

    def test_against_the_words_of_the_points(self):
        chance = random.Random(21)
        seen, overs = {}, {}
        for book in range(250):
            sides = chance.randint(2, 4)
            deeds = self.chance_deeds(chance, sides)
            kept = write(deeds)
            overs[len(Stand(deeds).over)] = True
            for day in sorted({deed[1] for deed in deeds}):
                until = [deed for deed in deeds if deed[1] <= day]
                told = lines_of(sides, COURT, SPEAKERS, kept, day)
                steps = [number for number, deed in enumerate(until) if deed[0] == "step"]
                self.assertEqual(told, [line_by_hand(until, number, sides) for number in steps], deeds)
                for turn, claim in [(turn, claim) for turn in (0, 1, 2) for claim in Stand(until).of(turn)]:
                    won = won_by_hand(until, turn, claim) if turn in Stand(until).over else 0
                    self.assertEqual(won_on(kept, turn, claim, day), won)
                for row, turn, cost, reason, parts in told:
                    self.assertEqual(sum(parts), cost)
                    seen[(turn, reason)] = True
        self.assertEqual(sorted(overs), [0, 1, 2, 3])
        self.assertEqual(sorted(seen), [(turn, reason) for turn in (0, 1, 2) for reason in
                                        ("late", "much", "offer", "open", "parts")])


if __name__ == "__main__":
    unittest.main()
