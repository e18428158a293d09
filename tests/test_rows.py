"""The rows of a book (points 1, 9 to 16, 19 and 31)."""

import random
import unittest

from costorder import rows
from writing import Stand, all_due, chance_deed, refusal_of, row_of, write

MOST = 9999999999

# Two claims in round 0, of three sides.
TWO = [("claim", 3, 0, 0, 1, 100), ("claim", 3, 7, 2, 0, 40)]
# Round 0 is over.
ONE_OVER = TWO + [("rule", 5, 0, [(0, 60)], False)]
# Claim 7 stands in round 1, claim 0 does not.
SECOND = ONE_OVER + [("carry", 6, 7)]
TWO_OVER = SECOND + [("rule", 8, 1, [], True)]
THIRD = TWO_OVER + [("carry", 9, 7)]
ALL_OVER = THIRD + [("rule", 10, 2, [(7, 40)], False)]


class Texts(unittest.TestCase):
    def told(self, deed):
        return rows.row_text(row_of(17, deed))

    def test_each_deed(self):
        self.assertEqual(self.told(("claim", 3, 0, 1, 2, 500)), "claim 3 0 1 2 500")
        self.assertEqual(self.told(("carry", 4, 12)), "carry 4 12")
        self.assertEqual(self.told(("step", 5, 1, 0, "plea", 2, "none")), "step 5 1 0 plea 2 none")
        self.assertEqual(self.told(("offer", 6, 2, 19, 40)), "offer 6 2 19 40")
        self.assertEqual(self.told(("pay", 7, 1, 5, 30)), "pay 7 1 5 30")
        self.assertEqual(self.told(("dun", 8, 3)), "dun 8 3")

    def test_every_kind_and_every_laying(self):
        for kind in ("filing", "hearing", "plea", "speech", "witness", "paper"):
            for laid in ("none", "late", "much"):
                self.assertEqual(self.told(("step", 0, 0, 0, kind, 0, laid)), f"step 0 0 0 {kind} 0 {laid}")

    def test_a_rule_alone_and_a_rule_that_looks_back(self):
        self.assertEqual(self.told(("rule", 9, 0, [(3, 50)], False)), "rule 9 0 own 3=50")
        self.assertEqual(self.told(("rule", 9, 1, [(3, 50)], True)), "rule 9 1 back 3=50")

    def test_the_wins_of_a_rule_in_their_order(self):
        self.assertEqual(self.told(("rule", 9, 2, [], False)), "rule 9 2 own")
        self.assertEqual(self.told(("rule", 9, 2, [], True)), "rule 9 2 back")
        self.assertEqual(self.told(("rule", 9, 2, [(5, 0), (1, MOST), (3, 7)], True)), f"rule 9 2 back 5=0 1={MOST} 3=7")

    def test_the_ends_of_the_ranges(self):
        self.assertEqual(self.told(("claim", 0, 0, 0, 1, 1)), "claim 0 0 0 1 1")
        self.assertEqual(self.told(("claim", 6000, 19, 7, 6, MOST)), "claim 6000 19 7 6 9999999999")
        self.assertEqual(self.told(("pay", 6000, 7, 5, 0)), "pay 6000 7 5 0")
        self.assertEqual(self.told(("step", 6000, 2, 7, "witness", MOST, "much")),
                         "step 6000 2 7 witness 9999999999 much")

    def test_the_number_of_the_row_is_not_in_its_text(self):
        for deed in SECOND:
            self.assertEqual(rows.row_text(row_of(0, deed)), rows.row_text(row_of(299, deed)))


class Rows(unittest.TestCase):
    def test_number_word_and_day(self):
        for deed in ALL_OVER + [("step", 11, 0, 0, "plea", 1, "none"), ("offer", 11, 0, 0, 1), ("pay", 11, 0, 0, 1),
                                ("dun", 11, 0)]:
            row = row_of(23, deed)
            self.assertIsInstance(row, tuple)
            self.assertEqual((row[rows.NUMBER], row[rows.WORD], row[rows.DAY]), (23, deed[0], deed[1]))

    def test_the_list_of_wins_is_not_kept(self):
        wins = [(0, 60)]
        row = row_of(0, ("rule", 5, 0, wins, False))
        wins.append((7, 40))
        wins[0] = (0, 1)
        self.assertEqual(rows.row_text(row), "rule 5 0 own 0=60")

    def test_the_places_of_the_arguments(self):
        step = row_of(1, ("step", 5, 2, 6, "plea", 9, "late"))
        self.assertEqual([step[place] for place in (rows.TURN, rows.STEP_SIDE, rows.STEP_KIND, rows.STEP_MANY,
                                                    rows.STEP_LAID)], [2, 6, "plea", 9, "late"])
        offer = row_of(1, ("offer", 5, 2, 6, 9))
        self.assertEqual([offer[place] for place in (rows.TURN, rows.OFFER_CLAIM, rows.OFFER_AMOUNT)], [2, 6, 9])
        rule = row_of(1, ("rule", 5, 2, [(6, 9)], True))
        self.assertEqual([rule[place] for place in (rows.TURN, rows.RULE_BACK, rows.RULE_WINS)], [2, True, ((6, 9),)])
        pay = row_of(1, ("pay", 5, 2, 6, 9))
        self.assertEqual([pay[place] for place in (rows.PAY_SIDE, rows.PAY_PERSON, rows.PAY_COINS)], [2, 6, 9])
        self.assertEqual(row_of(1, ("dun", 5, 2))[rows.DUN_SIDE], 2)
        self.assertEqual(row_of(1, ("claim", 5, 2, 6, 7, 9))[rows.CLAIM:], (2, 6, 7, 9))
        self.assertEqual(row_of(1, ("carry", 5, 2))[rows.CLAIM], 2)


class Rounds(unittest.TestCase):
    def rounds(self, deeds):
        return rows.rounds_of(write(deeds))

    def test_no_row(self):
        self.assertEqual(self.rounds([]), [[]])
        self.assertEqual(rows.over_of([[]]), 0)

    def test_a_claim_comes_into_round_0(self):
        self.assertEqual(self.rounds(TWO), [[(0, 0, 1, 100), (7, 2, 0, 40)]])

    def test_a_round_is_over_by_its_ruling(self):
        for deeds, over in ((TWO, 0), (ONE_OVER, 1), (SECOND, 1), (TWO_OVER, 2), (THIRD, 2), (ALL_OVER, 3)):
            self.assertEqual(rows.over_of(self.rounds(deeds)), over)

    def test_carry_takes_a_claim_of_the_last_round_over_into_the_current(self):
        self.assertEqual(self.rounds(SECOND), [[(0, 0, 1, 100), (7, 2, 0, 40)], [(7, 2, 0, 40)]])
        self.assertEqual(self.rounds(THIRD)[2], [(7, 2, 0, 40)])
        both = ONE_OVER + [("carry", 6, 7), ("carry", 6, 0)]
        self.assertEqual(self.rounds(both)[1], [(7, 2, 0, 40), (0, 0, 1, 100)])

    def test_the_claims_of_a_round(self):
        rounds = self.rounds(SECOND)
        self.assertEqual(rows.claims_of(rounds, 0), [(0, 0, 1, 100), (7, 2, 0, 40)])
        self.assertEqual(rows.claims_of(rounds, 1), [(7, 2, 0, 40)])
        for turn in (-2, -1, 2, 3):
            self.assertEqual(rows.claims_of(rounds, turn), [])
        self.assertEqual(rows.claims_of(self.rounds(ALL_OVER), 3), [])

    def test_the_worth_of_a_round(self):
        rounds = self.rounds(SECOND)
        self.assertEqual([rows.worth_of(rows.claims_of(rounds, turn)) for turn in (0, 1, 2)], [140, 40, 0])
        full = self.rounds([("claim", 0, claim, 0, 1, MOST) for claim in range(20)])
        self.assertEqual(rows.worth_of(rows.claims_of(full, 0)), 20 * MOST)

    def test_the_answer_is_new(self):
        kept = write(SECOND)
        rounds = rows.rounds_of(kept)
        rows.claims_of(rounds, 0).append((9, 0, 1, 1))
        self.assertEqual(rounds, rows.rounds_of(kept))
        rounds[0].append((9, 0, 1, 1))
        self.assertEqual(rows.rounds_of(kept)[0], [(0, 0, 1, 100), (7, 2, 0, 40)])


class RowsAlone(unittest.TestCase):
    """Rows of a day, and rows written anew into a book without rows (points 17 and 20)."""

    def anew(self, kept):
        try:
            rows.check_anew(kept)
        except ValueError as error:
            return str(error)
        return None

    def test_rows_until_a_day(self):
        kept = write(SECOND)
        self.assertEqual([len(rows.rows_until(kept, day)) for day in (2, 3, 4, 5, 6, 9)], [0, 2, 2, 3, 4, 4])
        self.assertEqual(rows.rows_until(kept, 5), kept[:3])

    def test_rows_that_were_taken_are_taken_anew(self):
        for deeds in ([], TWO, SECOND, ALL_OVER):
            self.assertIsNone(self.anew(write(deeds)))
            self.assertIsNone(self.anew(write(deeds, 41)))

    def test_each_row_is_looked_at_behind_those_before_it(self):
        kept = write(ALL_OVER)
        without = [self.anew(kept[:place] + kept[place + 1:]) for place in range(len(kept))]
        self.assertEqual(without, ["no such claim", "no such claim", "no such claim", "no such claim", "twice",
                                   "no such claim", None])

    def test_their_number_is_counted_anew(self):
        pays = [row_of(number, ("pay", 0, 0, 0, 1)) for number in range(301)]
        self.assertIsNone(self.anew(pays[1:]))
        self.assertEqual(self.anew(pays), "full")

    def test_their_days_must_not_fall(self):
        self.assertEqual(self.anew([row_of(0, ("dun", 5, 0)), row_of(1, ("dun", 4, 0))]), "too late")


class Refusals(unittest.TestCase):
    def taken(self, deeds, deed):
        self.assertIsNone(refusal_of(write(deeds), len(deeds), deed), deed)

    def refused(self, name, deeds, deed):
        """Refused so by the program, and by the document's words as read by hand."""
        self.assertEqual(refusal_of(write(deeds), len(deeds), deed), name, deed)
        self.assertEqual(all_due(deeds, len(deeds), deed)[0], name, deed)

    def some_deeds(self, day):
        """One of each of the seven deeds, each of which is taken in some book."""
        return [("claim", day, 1, 0, 1, 5), ("carry", day, 0), ("step", day, 0, 0, "plea", 1, "none"),
                ("offer", day, 0, 0, 5), ("rule", day, 0, [(0, 5)], False), ("pay", day, 0, 0, 5), ("dun", day, 0)]

    def test_full(self):
        kept = write(TWO)
        for deed in self.some_deeds(9):
            for written in (300, 301):
                self.assertEqual(refusal_of(kept, written, deed), "Full")
            if deed[0] != "carry":
                self.assertIsNone(refusal_of(kept, 299, deed))
        self.assertIsNone(refusal_of(write(ONE_OVER), 299, ("carry", 9, 0)))
        self.assertEqual(refusal_of(write(ONE_OVER), 300, ("carry", 9, 0)), "Full")

    def test_full_by_rows_kept(self):
        pays = [("pay", 0, 0, 0, 1)] * 300
        self.taken(pays[:299], pays[0])
        self.refused("Full", pays, pays[0])

    def test_no_claim_to_carry(self):
        self.refused("NoClaim", [], ("carry", 9, 0))
        self.refused("NoClaim", TWO, ("carry", 9, 0))
        self.refused("NoClaim", ONE_OVER, ("carry", 9, 1))
        self.taken(ONE_OVER, ("carry", 9, 0))
        # Claim 0 was a claim of round 0, but round 1 is the last that is over.
        self.refused("NoClaim", TWO_OVER, ("carry", 9, 0))
        self.taken(TWO_OVER, ("carry", 9, 7))

    def test_no_claim_for_a_step(self):
        for turn in (0, 1, 2):
            self.refused("NoClaim", [], ("step", 9, turn, 0, "plea", 1, "none"))
        self.taken(TWO, ("step", 9, 0, 0, "plea", 1, "none"))
        self.refused("NoClaim", TWO, ("step", 9, 1, 0, "plea", 1, "none"))
        self.refused("NoClaim", ONE_OVER, ("step", 9, 1, 0, "plea", 1, "none"))
        self.taken(SECOND, ("step", 9, 1, 0, "plea", 1, "none"))
        self.refused("NoClaim", SECOND, ("step", 9, 2, 0, "plea", 1, "none"))
        self.refused("NoClaim", TWO_OVER, ("step", 9, 2, 0, "plea", 1, "none"))
        self.taken(THIRD, ("step", 9, 2, 0, "plea", 1, "none"))

    def test_no_claim_for_an_offer(self):
        self.refused("NoClaim", [], ("offer", 9, 0, 0, 1))
        self.taken(TWO, ("offer", 9, 0, 7, 1))
        self.refused("NoClaim", TWO, ("offer", 9, 0, 1, 1))
        self.refused("NoClaim", TWO, ("offer", 9, 1, 0, 1))
        self.taken(SECOND, ("offer", 9, 1, 7, 1))
        self.refused("NoClaim", SECOND, ("offer", 9, 1, 0, 1))

    def test_no_claim_to_rule_on(self):
        self.refused("NoClaim", [], ("rule", 9, 0, [], False))
        self.refused("NoClaim", TWO, ("rule", 9, 1, [], False))
        self.refused("NoClaim", ONE_OVER, ("rule", 9, 1, [], False))
        self.taken(SECOND, ("rule", 9, 1, [], False))
        self.taken(SECOND, ("rule", 9, 1, [(7, 1)], True))
        self.refused("NoClaim", SECOND, ("rule", 9, 1, [(0, 1)], False))
        self.refused("NoClaim", SECOND, ("rule", 9, 1, [(7, 1), (0, 0)], False))
        self.refused("NoClaim", TWO, ("rule", 9, 0, [(0, 1), (7, 1), (1, 0)], False))

    def test_a_round_beyond_the_three_has_no_claim(self):
        for deeds in (TWO, SECOND, ALL_OVER):
            for turn in (-1, 3, 4):
                for deed in (("step", 19, turn, 0, "plea", 1, "none"), ("offer", 19, turn, 7, 1),
                             ("rule", 19, turn, [], False)):
                    self.refused("NoClaim", deeds, deed)

    def test_a_claim_behind_the_ruling_of_round_0(self):
        self.taken(TWO, ("claim", 9, 1, 0, 1, 5))
        for deeds in (ONE_OVER, SECOND, TWO_OVER, ALL_OVER):
            self.refused("RoundOver", deeds, ("claim", 19, 1, 0, 1, 5))

    def test_a_carry_behind_the_last_ruling(self):
        self.taken(TWO_OVER, ("carry", 19, 7))
        self.refused("RoundOver", ALL_OVER, ("carry", 19, 7))

    def test_step_offer_and_rule_in_a_round_that_is_over(self):
        for deeds, last in ((ONE_OVER, 0), (SECOND, 0), (TWO_OVER, 1), (THIRD, 1), (ALL_OVER, 2)):
            for turn in range(last + 1):
                self.refused("RoundOver", deeds, ("step", 19, turn, 0, "plea", 1, "none"))
                self.refused("RoundOver", deeds, ("offer", 19, turn, 7, 1))
                self.refused("RoundOver", deeds, ("rule", 19, turn, [(7, 1)], False))

    def test_pay_and_dun_at_any_time(self):
        for deeds in ([], TWO, ONE_OVER, SECOND, TWO_OVER, THIRD, ALL_OVER):
            self.taken(deeds, ("pay", 19, 0, 0, 5))
            self.taken(deeds, ("dun", 19, 0))

    def test_too_late(self):
        for deed in self.some_deeds(2):
            deeds = ONE_OVER if deed[0] == "carry" else TWO
            self.refused("TooLate", deeds, deed)

    def test_the_same_day_is_fine(self):
        for deed in self.some_deeds(3):
            if deed[0] != "carry":
                self.taken(TWO, deed)
        self.taken(ONE_OVER, ("carry", 5, 0))
        self.refused("TooLate", ONE_OVER, ("carry", 4, 0))

    def test_any_day_is_fine_in_a_book_without_rows(self):
        for day in (0, 6000):
            for deed in (("claim", day, 0, 0, 1, 1), ("pay", day, 0, 0, 1), ("dun", day, 0)):
                self.taken([], deed)

    def test_the_last_row_kept_tells_the_day(self):
        # Row 1 of day 9 was undone: only rows kept are handed in.
        kept = write(TWO[:1])
        self.assertIsNone(refusal_of(kept, 2, ("dun", 3, 0)))
        self.assertEqual(refusal_of(kept, 2, ("dun", 2, 0)), "TooLate")

    def test_a_claim_twice(self):
        self.refused("Twice", TWO, ("claim", 9, 7, 0, 1, 5))
        self.refused("Twice", TWO, ("claim", 9, 0, 0, 1, 100))
        self.taken(TWO, ("claim", 9, 1, 0, 1, 100))

    def test_a_carry_twice(self):
        self.refused("Twice", SECOND, ("carry", 9, 7))
        self.taken(SECOND, ("carry", 9, 0))
        self.refused("Twice", THIRD, ("carry", 9, 7))

    def test_a_ruling_that_names_a_claim_twice(self):
        self.refused("Twice", TWO, ("rule", 9, 0, [(0, 1), (0, 1)], False))
        self.refused("Twice", TWO, ("rule", 9, 0, [(0, 1), (7, 2), (0, 3)], False))
        self.taken(TWO, ("rule", 9, 0, [(7, 1), (0, 1)], False))

    def test_an_offer_above_the_worth(self):
        self.taken(TWO, ("offer", 9, 0, 0, 100))
        self.refused("TooMuch", TWO, ("offer", 9, 0, 0, 101))
        self.taken(TWO, ("offer", 9, 0, 7, 40))
        self.refused("TooMuch", TWO, ("offer", 9, 0, 7, 41))
        self.taken(SECOND, ("offer", 9, 1, 7, 40))
        self.refused("TooMuch", SECOND, ("offer", 9, 1, 7, 41))
        self.taken(TWO, ("offer", 9, 0, 7, 0))

    def test_a_ruling_above_the_worth(self):
        self.taken(TWO, ("rule", 9, 0, [(0, 100), (7, 40)], False))
        self.refused("TooMuch", TWO, ("rule", 9, 0, [(0, 101)], False))
        self.refused("TooMuch", TWO, ("rule", 9, 0, [(0, 100), (7, 41)], True))
        self.refused("TooMuch", SECOND, ("rule", 9, 1, [(7, 41)], False))

    def test_full_comes_first(self):
        kept = write(ALL_OVER)
        for deed in (("carry", 1, 0), ("claim", 1, 0, 0, 1, 5), ("pay", 1, 0, 0, 1), ("rule", 1, 0, [(0, 999)] * 2, True)):
            self.assertEqual(refusal_of(kept, 300, deed), "Full")

    def test_no_claim_comes_before_all_others_but_full(self):
        self.refused("NoClaim", ALL_OVER, ("carry", 1, 0))
        self.refused("NoClaim", ONE_OVER, ("offer", 1, 0, 1, 999))
        self.refused("NoClaim", ONE_OVER, ("rule", 1, 0, [(0, 999), (0, 1), (1, 1)], False))
        self.refused("NoClaim", TWO, ("rule", 9, 0, [(1, 1), (1, 1)], False))
        self.refused("NoClaim", TWO, ("step", 1, 1, 0, "plea", 1, "none"))

    def test_round_over_comes_before_too_late_twice_and_too_much(self):
        self.refused("RoundOver", ONE_OVER, ("claim", 1, 0, 0, 1, 5))
        self.refused("RoundOver", ONE_OVER, ("claim", 9, 0, 0, 1, 5))
        self.refused("RoundOver", ALL_OVER, ("carry", 1, 7))
        self.refused("RoundOver", ONE_OVER, ("step", 1, 0, 0, "plea", 1, "none"))
        self.refused("RoundOver", ONE_OVER, ("offer", 9, 0, 0, 101))
        self.refused("RoundOver", ONE_OVER, ("rule", 1, 0, [(0, 101), (0, 1)], False))

    def test_too_late_comes_before_twice_and_too_much(self):
        self.refused("TooLate", TWO, ("claim", 2, 0, 0, 1, 5))
        self.refused("TooLate", SECOND, ("carry", 5, 7))
        self.refused("TooLate", TWO, ("offer", 2, 0, 0, 101))
        self.refused("TooLate", TWO, ("rule", 2, 0, [(0, 101), (0, 1)], False))

    def test_twice_comes_before_too_much(self):
        self.refused("Twice", TWO, ("rule", 9, 0, [(0, 101), (0, 1)], False))

    def test_somewhat_beyond_the_bounds_nothing_is_refused(self):
        self.taken([], ("claim", 6001, 20, 8, 9, 10 ** 10))
        self.taken([], ("claim", -1, 0, 0, 1, 5))
        self.taken(TWO, ("pay", 6001, 8, 6, 10 ** 10))
        self.taken(TWO, ("step", 6001, 0, 8, "plea", 100, "none"))
        self.taken([("claim", 0, claim, 0, 1, 1) for claim in range(20)], ("claim", 0, 20, 0, 1, 1))

    def test_the_words_of_the_refusals(self):
        for words, deeds, written, deed in (
                ("full", TWO, 300, ("dun", 9, 0)), ("no such claim", TWO, 2, ("carry", 9, 0)),
                ("round over", ONE_OVER, 3, ("claim", 9, 1, 0, 1, 5)), ("too late", TWO, 2, ("dun", 1, 0)),
                ("twice", TWO, 2, ("claim", 9, 0, 0, 1, 5)), ("too much", TWO, 2, ("offer", 9, 0, 0, 101))):
            with self.assertRaises(ValueError) as raised:
                rows.check_row(write(deeds), written, row_of(written, deed))
            self.assertEqual(str(raised.exception), words)

    def test_nothing_is_changed(self):
        for deeds in (TWO, SECOND, ALL_OVER):
            for deed in self.some_deeds(1) + self.some_deeds(19):
                kept = write(deeds)
                refusal_of(kept, len(kept), deed)
                self.assertEqual(kept, write(deeds))

    def test_by_chance_against_the_words_of_the_points(self):
        chance = random.Random(16)
        seen, overs = {}, {}
        for book in range(300):
            deeds, kept, day, written = [], [], 2, 0
            for number in range(150):
                deed = chance_deed(chance, max(0, day + chance.choice((-1, 0, 0, 0, 1))), 3)
                due = all_due(deeds, written, deed) + [None]
                self.assertEqual(refusal_of(kept, written, deed), due[0], (deeds, deed))
                seen[tuple(due[:2])] = True
                if due[0] is None:
                    deeds.append(deed)
                    kept.append(row_of(written, deed))
                    day, written = deed[1], written + 1
            stand, rounds = Stand(deeds), rows.rounds_of(kept)
            self.assertEqual(rows.over_of(rounds), len(stand.over))
            overs[len(stand.over)] = True
            for turn in (0, 1, 2):
                told = {claim[0]: claim[1:] for claim in rows.claims_of(rounds, turn)}
                self.assertEqual(told, stand.of(turn))
                self.assertEqual(rows.worth_of(rows.claims_of(rounds, turn)), stand.worth(turn))
        self.assertEqual(sorted(overs), [0, 1, 2, 3])
        # Each pair of refusals that one deed can meet at once was met.
        for pair in (("NoClaim", "RoundOver"), ("NoClaim", "TooLate"), ("NoClaim", "Twice"), ("RoundOver", "TooLate"),
                     ("RoundOver", "Twice"), ("RoundOver", "TooMuch"), ("TooLate", "Twice"), ("TooLate", "TooMuch"),
                     ("Twice", "TooMuch")):
            self.assertIn(pair, seen)


if __name__ == "__main__":
    unittest.main()
