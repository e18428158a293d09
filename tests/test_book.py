"""The book: its deeds, their refusals, undoing, marks and the rows kept (points 1 and 9 to 23)."""

import random
import unittest

from costorder import errors
from costorder.book import Book
from costorder.office import answers
from writing import COURT, SPEAKERS, HandBook, Stand, all_told, book_of, chance_next, do, new_book

LAST = 6000
MOST = 9999999999

# Three sides: side 0 asks side 1 for 100 coins, side 2 asks side 0 for 40.
TWO = [("claim", 3, 0, 0, 1, 100), ("claim", 3, 7, 2, 0, 40)]
ONE_OVER = TWO + [("rule", 5, 0, [(0, 60)], False)]
# Claim 7 stands in round 1, claim 0 does not.
SECOND = ONE_OVER + [("carry", 6, 7)]
TWO_OVER = SECOND + [("rule", 8, 1, [], True)]
THIRD = TWO_OVER + [("carry", 9, 7)]
ALL_OVER = THIRD + [("rule", 10, 2, [(7, 40)], False)]

# One of each of the seven deeds.
SEVEN = [("claim", 9, 1, 0, 1, 5), ("carry", 9, 0), ("step", 9, 0, 0, "plea", 1, "none"), ("offer", 9, 0, 0, 5),
         ("rule", 9, 0, [(0, 5)], False), ("pay", 9, 0, 0, 5), ("dun", 9, 0)]


def witness(day, turn, side, coins, laid="none"):
    return ("step", day, turn, side, "witness", coins, laid)


def state_of(book):
    return all_told(book, (0, 3, 5, 9, 12, LAST), 3)


class BookCase(unittest.TestCase):
    def refused(self, name, book, deed):
        """Refused with that very class, and nothing is changed by it."""
        before = state_of(book)
        with self.assertRaises(getattr(errors, name)) as raised:
            getattr(book, deed[0])(*deed[1:])
        self.assertEqual(type(raised.exception).__name__, name)
        self.assertEqual(state_of(book), before)

    def taken(self, book, deed):
        before = book.mark()
        self.assertIs(type(do(book, deed)), int, deed)
        self.assertEqual(book.mark(), before + 1)


class Numbers(BookCase):
    def test_rows_are_numbered_from_0_on(self):
        book = new_book()
        deeds = TWO + [witness(4, 0, 1, 9), ("offer", 4, 0, 0, 5), ("pay", 4, 1, 0, 3), ("dun", 4, 1),
                       ("rule", 5, 0, [], False), ("carry", 6, 0)]
        self.assertEqual([do(book, deed) for deed in deeds], list(range(8)))

    def test_an_undone_row_keeps_its_number_and_no_other_row_gets_it(self):
        book = book_of(TWO)
        self.assertEqual(book.undo(1), 1)
        self.assertEqual(book.claim(3, 7, 2, 0, 41), 2)
        self.assertEqual(book.undo(0), 0)
        self.assertEqual(book.undo(2), 2)
        self.assertEqual(book.pay(0, 0, 0, 1), 3)
        self.assertEqual(book.undo(3), 3)
        self.assertEqual(book.dun(0, 0), 4)
        self.assertEqual(book.kept(), ["dun 0 0"])

    def test_a_refused_deed_takes_no_number(self):
        book = book_of(TWO)
        self.refused("Twice", book, TWO[0])
        self.assertEqual(book.dun(3, 0), 2)

    def test_lines_tell_the_row_s_number(self):
        book = book_of(TWO + [witness(4, 0, 1, 9), witness(4, 0, 0, 8)])
        book.undo(2)
        self.assertEqual(book.step(4, 0, 1, "witness", 7), 4)
        self.assertEqual([line[0] for line in book.lines(LAST)], [3, 4])

    def test_an_undone_row_counts_for_nothing(self):
        book = book_of(TWO + [witness(4, 0, 1, 9), ("pay", 4, 1, 0, 5), ("dun", 4, 1)])
        for row in (2, 3, 4):
            book.undo(row)
        self.assertEqual(state_of(book)[1:], state_of(book_of(TWO))[1:])


class Arguments(BookCase):
    def test_the_defaults(self):
        book = book_of(TWO)
        book.step(4, 0, 1, "witness", 9)
        book.rule(5, 0, [(0, 60)])
        self.assertEqual(book.kept()[2:], ["step 4 0 1 witness 9 none", "rule 5 0 own 0=60"])

    def test_the_kinds_of_the_answers(self):
        book = book_of(SECOND + [witness(6, 1, 1, 9)])
        self.assertIs(type(book.mark()), int)
        self.assertIs(type(book.kept()), list)
        self.assertIs(type(book.lines(9)), list)
        self.assertIs(type(book.lines(9)[0]), tuple)
        self.assertIs(type(book.lines(9)[0][4]), tuple)
        self.assertIs(type(book.bill(0, 9)), tuple)
        self.assertIs(type(book.bill(0, 9)[0]), list)
        self.assertIs(type(book.owes(9)), list)
        self.assertIs(type(book.together(0, 9)), tuple)
        self.assertIs(type(book.together(0, 9)[1]), list)

    def test_a_book_without_rows(self):
        book = new_book()
        self.assertEqual((book.mark(), book.kept(), book.lines(LAST), book.owes(LAST)), (0, [], [], []))
        self.assertEqual(book.bill(2, LAST), ([], 0, 0, 0, 0))
        self.assertEqual(book.together(2, LAST), (0, [0, 0, 0]))
        self.assertEqual(book.together(0, 0, 0), (0, [0]))


class Rounds(BookCase):
    def test_a_claim_comes_into_round_0_alone(self):
        book = book_of(TWO)
        self.taken(book, witness(4, 0, 0, 1))
        self.refused("NoClaim", book, witness(4, 1, 0, 1))
        self.refused("NoClaim", book, witness(4, 2, 0, 1))

    def test_claims_are_carried_round_by_round(self):
        book = book_of(ONE_OVER)
        self.refused("NoClaim", book, witness(6, 1, 0, 1))
        book.carry(6, 7)
        self.taken(book, witness(6, 1, 0, 1))
        self.refused("NoClaim", book, ("offer", 6, 1, 0, 1))
        book.rule(7, 1, [(7, 40)])
        self.refused("NoClaim", book, ("carry", 7, 0))
        book.carry(7, 7)
        self.taken(book, witness(7, 2, 0, 1))

    def test_a_carried_claim_is_the_same_claim(self):
        book = book_of(SECOND)
        self.refused("TooMuch", book, ("offer", 6, 1, 7, 41))
        book.step(6, 1, 1, "witness", 40)
        book.rule(7, 1, [(7, 30)])
        # Side 2 asked side 0: side 0 lost 30, side 2 lost 10.
        self.assertEqual(book.lines(7), [(4, 1, 40, "parts", (30, 0, 10))])

    def test_behind_all_three_rounds_there_is_no_current_round(self):
        book = book_of(ALL_OVER)
        self.refused("RoundOver", book, ("carry", 10, 7))
        self.refused("RoundOver", book, ("claim", 10, 1, 0, 1, 5))
        for turn in (0, 1, 2):
            self.refused("RoundOver", book, witness(10, turn, 0, 1))
            self.refused("RoundOver", book, ("rule", 10, turn, [], False))

    def test_a_ruling_undone_makes_its_round_current_again(self):
        book = book_of(ALL_OVER)
        book.undo(6)
        self.taken(book, witness(9, 2, 0, 1))
        book = book_of(ONE_OVER)
        book.undo(2)
        self.taken(book, ("claim", 3, 1, 0, 1, 5))
        self.taken(book, ("rule", 3, 0, [(1, 5)], False))

    def test_a_payment_and_a_dunning_at_any_time(self):
        for deeds in ([], TWO, ONE_OVER, SECOND, TWO_OVER, THIRD, ALL_OVER):
            book = book_of(deeds)
            self.taken(book, ("pay", 10, 1, 1, 5))
            self.taken(book, ("dun", 10, 1))
            self.assertEqual(book.bill(1, 10)[3], 5)


class Costs(BookCase):
    def costs(self, book):
        return [line[2] for line in book.lines(LAST)]

    def test_a_cost_goes_by_the_worth_of_the_rows_before_it(self):
        filing = ("step", 3, 0, 0, "filing", 1, "none")
        book = book_of([TWO[0], filing, TWO[1], filing, ("claim", 3, 1, 1, 2, 9999), filing])
        self.assertEqual(self.costs(book), [60, 135, 270])

    def test_a_claim_undone_ahead_of_a_step_changes_its_cost(self):
        filing = ("step", 3, 0, 0, "filing", 1, "none")
        book = book_of(TWO + [filing])
        self.assertEqual(self.costs(book), [135])
        book.undo(1)
        self.assertEqual(self.costs(book), [60])
        self.assertEqual(book.lines(LAST, 3)[0][2], 135)
        # Written anew behind the step, it does not change the cost.
        book.claim(3, 7, 2, 0, 40)
        self.assertEqual(self.costs(book), [60])

    def test_the_book_s_own_tables(self):
        deeds = TWO + [("step", 3, 0, 0, kind, 3, "none") for kind in ("filing", "hearing", "plea", "speech")]
        self.assertEqual(self.costs(book_of(deeds)), [405, 135, 273, 252])
        other = Book([1, 1, 1], [(10, 1)], [(10, 10)])
        for deed in deeds:
            do(other, deed)
        self.assertEqual(self.costs(other), [9, 3, 39, 36])


class Lines(BookCase):
    DEEDS = TWO + [witness(4, 0, 1, 140), ("offer", 5, 0, 0, 60), witness(5, 0, 1, 140), witness(6, 0, 2, 9, "late"),
                   witness(6, 0, 0, 8, "much"), ("rule", 8, 0, [(0, 60), (7, 10)], False), ("carry", 9, 0),
                   witness(9, 1, 1, 100), ("rule", 11, 1, [(0, 61)], True)]

    def test_the_five_reasons(self):
        book = book_of(self.DEEDS)
        self.assertEqual(book.lines(10), [(2, 0, 140, "parts", (50, 60, 30)), (4, 0, 140, "offer", (110, 0, 30)),
                                          (5, 0, 9, "late", (0, 0, 9)), (6, 0, 8, "much", (8, 0, 0)),
                                          (9, 1, 100, "open", (0, 100, 0))])

    def test_the_lines_of_days_between_rows(self):
        book = book_of(self.DEEDS)
        self.assertEqual([len(book.lines(day)) for day in (0, 3, 4, 5, 6, 7, 8, 9, LAST)], [0, 0, 1, 2, 4, 4, 4, 5, 5])
        self.assertEqual([line[3] for line in book.lines(7)], ["open", "open", "late", "much"])
        self.assertEqual([line[3] for line in book.lines(8)], ["parts", "offer", "late", "much"])

    def test_a_later_word_from_its_day_on(self):
        book = book_of(self.DEEDS[:-1])
        before = [book.lines(day) for day in range(11)]
        book.rule(11, 1, [(0, 61)], True)
        self.assertEqual([book.lines(day) for day in range(11)], before)
        self.assertEqual([line[3:] for line in book.lines(11)],
                         [("parts", (49, 61, 30)), ("parts", (49, 61, 30)), ("late", (0, 0, 9)), ("much", (8, 0, 0)),
                          ("parts", (39, 61, 0))])

    def test_a_word_of_its_own_round_alone(self):
        book = book_of(self.DEEDS[:-1])
        before = book.lines(10)
        book.rule(11, 1, [(0, 61)], False)
        self.assertEqual(book.lines(11)[:4], before[:4])

    def test_an_offer_beside_what_was_won(self):
        for day, amount, reason in ((4, 60, "offer"), (4, 59, "parts"), (5, 60, "offer"), (6, 60, "parts")):
            deeds = [witness(5, 0, 1, 140), ("offer", day, 0, 0, amount)]
            book = book_of(TWO + sorted(deeds, key=lambda deed: deed[1]) + [("rule", 8, 0, [(0, 60)], False)])
            self.assertEqual([line[3] for line in book.lines(8)], [reason])

    def test_a_claim_that_won_nothing_is_not_turned(self):
        book = book_of(TWO + [("offer", 4, 0, 0, 100), witness(5, 0, 1, 140), ("rule", 8, 0, [(7, 10)], False)])
        self.assertEqual([line[3:] for line in book.lines(8)], [("parts", (110, 0, 30))])


class Refusals(BookCase):
    def test_no_such_claim(self):
        for deed in SEVEN:
            if deed[0] in ("carry", "step", "offer", "rule"):
                self.refused("NoClaim", new_book(), deed)
        self.refused("NoClaim", book_of(TWO), ("carry", 9, 0))
        self.refused("NoClaim", book_of(TWO_OVER), ("carry", 9, 0))
        self.refused("NoClaim", book_of(TWO), ("offer", 9, 0, 1, 1))
        self.refused("NoClaim", book_of(TWO), ("rule", 9, 0, [(0, 1), (1, 1)], False))

    def test_a_claim_that_was_undone_is_none_of_the_round_s(self):
        book = book_of(TWO)
        book.undo(1)
        self.refused("NoClaim", book, ("offer", 9, 0, 7, 1))
        self.refused("NoClaim", book, ("rule", 9, 0, [(7, 1)], False))
        book.undo(0)
        self.refused("NoClaim", book, witness(9, 0, 0, 1))

    def test_round_over(self):
        for deed in (("claim", 9, 1, 0, 1, 5), witness(9, 0, 0, 1), ("offer", 9, 0, 0, 1), ("rule", 9, 0, [], False)):
            self.refused("RoundOver", book_of(SECOND), deed)
        self.refused("RoundOver", book_of(ALL_OVER), ("carry", 10, 7))

    def test_too_late_and_the_same_day(self):
        for deed in SEVEN:
            deeds = ONE_OVER if deed[0] == "carry" else TWO
            last = deeds[-1][1]
            self.refused("TooLate", book_of(deeds), (deed[0], last - 1) + deed[2:])
            self.taken(book_of(deeds), (deed[0], last) + deed[2:])

    def test_the_last_row_kept_tells_the_day(self):
        book = book_of(TWO + [("pay", 9, 0, 0, 1)])
        self.refused("TooLate", book, ("dun", 8, 0))
        book.undo(2)
        self.refused("TooLate", book, ("dun", 2, 0))
        self.taken(book, ("dun", 3, 0))

    def test_an_undone_row_in_the_middle_leaves_the_day(self):
        book = book_of(TWO + [("pay", 9, 0, 0, 1), ("pay", 12, 0, 0, 1)])
        book.undo(2)
        self.refused("TooLate", book, ("dun", 11, 0))

    def test_twice(self):
        self.refused("Twice", book_of(TWO), ("claim", 9, 7, 0, 1, 5))
        self.refused("Twice", book_of(SECOND), ("carry", 9, 7))
        self.refused("Twice", book_of(TWO), ("rule", 9, 0, [(0, 1), (0, 1)], False))
        book = book_of(TWO)
        book.undo(1)
        self.taken(book, ("claim", 9, 7, 0, 1, 5))

    def test_too_much(self):
        self.refused("TooMuch", book_of(TWO), ("offer", 9, 0, 7, 41))
        self.taken(book_of(TWO), ("offer", 9, 0, 7, 40))
        self.refused("TooMuch", book_of(TWO), ("rule", 9, 0, [(7, 40), (0, 101)], False))
        self.taken(book_of(TWO), ("rule", 9, 0, [(7, 40), (0, 100)], False))

    def test_the_first_in_the_document_s_order(self):
        for name, deeds, deed in (("NoClaim", ALL_OVER, ("carry", 1, 0)),
                                  ("NoClaim", ONE_OVER, ("rule", 1, 0, [(1, 999), (1, 1)], False)),
                                  ("NoClaim", TWO, ("offer", 1, 1, 0, 999)),
                                  ("RoundOver", ALL_OVER, ("carry", 1, 7)),
                                  ("RoundOver", ONE_OVER, ("claim", 1, 0, 0, 1, 5)),
                                  ("RoundOver", ONE_OVER, ("rule", 1, 0, [(0, 999), (0, 1)], False)),
                                  ("TooLate", TWO, ("claim", 1, 0, 0, 1, 5)),
                                  ("TooLate", TWO, ("offer", 1, 0, 0, 999)),
                                  ("TooLate", TWO, ("rule", 1, 0, [(0, 999), (0, 1)], False)),
                                  ("Twice", TWO, ("rule", 9, 0, [(0, 999), (0, 1)], False))):
            self.refused(name, book_of(deeds), deed)

    def test_every_refusal_is_a_cost_error(self):
        with self.assertRaises(errors.CostError):
            new_book().carry(1, 0)

    def test_somewhat_beyond_the_bounds_nothing_is_refused(self):
        book = Book([7] * 9, [(1, 10 ** 8)] * 41, [(10 ** 11, 1)])
        self.assertEqual(book.claim(6001, 20, 8, 0, 10 ** 10), 0)
        self.assertEqual(book.step(6002, 0, 8, "filing", 100), 1)
        self.assertEqual(book.pay(6003, 8, 6, 10 ** 11), 2)
        self.assertEqual(book.bill(8, 6004)[1:], (3 * 10 ** 10, 0, 10 ** 11, -7 * 10 ** 10))


class FullBooks(BookCase):
    def full_book(self):
        book = book_of(ONE_OVER)
        while book.mark() < 300:
            book.pay(5, 0, 0, 1)
        return book

    def test_a_book_has_300_rows(self):
        book = book_of(ONE_OVER)
        for row in range(3, 300):
            self.assertEqual(book.pay(5, 0, 0, 1), row)
        for deed in SEVEN:
            self.refused("Full", book, deed)

    def test_full_comes_first(self):
        book = self.full_book()
        for deed in (("claim", 1, 0, 0, 1, 5), ("carry", 1, 9), ("rule", 1, 0, [(9, 1), (9, 1)], False), ("pay", 1, 0, 0, 1)):
            self.refused("Full", book, deed)

    def test_undone_rows_count(self):
        book = new_book()
        for row in range(300):
            self.assertEqual(book.dun(1, 0), row)
            book.undo(row)
        self.assertEqual((book.mark(), book.kept()), (600, []))
        self.refused("Full", book, ("dun", 1, 0))

    def test_a_full_book_can_be_undone_in_but_stays_full(self):
        book = self.full_book()
        self.assertEqual(book.undo(299), 299)
        self.assertEqual(book.undo(100), 100)
        self.assertEqual((book.mark(), len(book.kept())), (302, 298))
        for deed in SEVEN:
            self.refused("Full", book, deed)
        self.refused("NoRow", book, ("undo", 299))
        self.refused("NoRow", book, ("undo", 300))
        self.refused("Needed", book, ("undo", 0))

    def test_another_book_takes_rows_meanwhile(self):
        full, other = self.full_book(), new_book()
        self.refused("Full", full, ("dun", 9, 0))
        self.assertEqual(other.claim(0, 0, 0, 1, 5), 0)
        self.refused("Full", full, ("dun", 9, 0))
        self.assertEqual(other.dun(0, 0), 1)


class Undoing(BookCase):
    def test_no_such_row(self):
        book = book_of(TWO)
        for row in (-1, -2, -3, 2, 3, 300):
            self.refused("NoRow", book, ("undo", row))
        self.refused("NoRow", new_book(), ("undo", 0))

    def test_undone_already(self):
        book = book_of(TWO)
        book.undo(1)
        self.refused("NoRow", book, ("undo", 1))
        # No row that is needed either way: NoRow comes first.
        book = book_of(ONE_OVER)
        self.refused("NoRow", book, ("undo", -1))

    def test_a_claim_that_was_carried(self):
        book = book_of(TWO + [("rule", 5, 0, [], False), ("carry", 6, 7)])
        self.refused("Needed", book, ("undo", 1))
        self.taken(book, ("undo", 0))
        self.taken(book, ("undo", 3))
        # Now it is the last claim of a round that was ruled on.
        self.refused("Needed", book, ("undo", 1))

    def test_a_claim_that_was_offered_for(self):
        book = book_of(TWO + [("offer", 4, 0, 7, 5)])
        self.refused("Needed", book, ("undo", 1))
        self.taken(book, ("undo", 2))
        self.taken(book, ("undo", 1))

    def test_a_claim_that_was_ruled_on(self):
        book = book_of(ONE_OVER)
        self.refused("Needed", book, ("undo", 0))
        self.taken(book, ("undo", 1))
        self.taken(book, ("undo", 2))
        self.taken(book, ("undo", 0))

    def test_a_ruling_ahead_of_a_later_round(self):
        book = book_of(THIRD)
        self.refused("Needed", book, ("undo", 2))
        self.refused("Needed", book, ("undo", 4))
        self.refused("Needed", book, ("undo", 3))
        for row in (5, 4, 3, 2):
            self.taken(book, ("undo", row))
        self.assertEqual(book.kept(), ["claim 3 0 0 1 100", "claim 3 7 2 0 40"])

    def test_a_ruling_behind_which_only_payments_came(self):
        book = book_of(ONE_OVER + [("pay", 6, 0, 0, 1), ("dun", 7, 1)])
        self.taken(book, ("undo", 2))

    def test_the_last_claim_under_a_step(self):
        book = book_of(TWO + [witness(4, 0, 1, 9)])
        self.taken(book, ("undo", 0))
        self.refused("Needed", book, ("undo", 1))
        book.undo(2)
        self.taken(book, ("undo", 1))

    def test_a_claim_that_comes_behind_the_step_does_not_help(self):
        book = book_of([TWO[0], witness(3, 0, 1, 9), TWO[1]])
        self.refused("Needed", book, ("undo", 0))
        self.taken(book, ("undo", 2))

    def test_a_carried_claim_under_a_step_in_a_later_round(self):
        book = book_of(SECOND + [witness(6, 1, 0, 9)])
        self.refused("Needed", book, ("undo", 3))
        book.carry(6, 0)
        self.refused("Needed", book, ("undo", 3))
        self.taken(book, ("undo", 5))

    def test_steps_offers_payments_and_dunnings(self):
        book = book_of(TWO + [witness(4, 0, 1, 9), ("offer", 4, 0, 0, 5), ("pay", 4, 1, 0, 3), ("dun", 4, 1),
                              ("rule", 5, 0, [], False)])
        for row in (2, 3, 4, 5):
            self.taken(book, ("undo", row))
        self.assertEqual(book.kept(), ["claim 3 0 0 1 100", "claim 3 7 2 0 40", "rule 5 0 own"])

    def test_an_undoing_counts_as_a_deed(self):
        book = book_of(TWO)
        self.assertEqual((book.undo(0), book.mark()), (0, 3))
        self.refused("NoRow", book, ("undo", 0))
        self.assertEqual(book.mark(), 3)


class Marks(BookCase):
    def test_written_and_undone_rows_and_no_refused_ones(self):
        book = new_book()
        self.assertEqual(book.mark(), 0)
        book.claim(3, 0, 0, 1, 100)
        self.assertEqual(do(book, ("claim", 3, 0, 0, 1, 100)), "Twice")
        self.assertEqual(book.mark(), 1)
        book.undo(0)
        self.assertEqual(do(book, ("undo", 0)), "NoRow")
        self.assertEqual(book.mark(), 2)

    def test_asking_is_no_deed(self):
        book = book_of(SECOND)
        state_of(book)
        self.assertEqual(book.mark(), len(SECOND))

    def test_the_mark_0(self):
        book = book_of(SECOND + [witness(6, 1, 0, 9)])
        self.assertEqual((book.kept(0), book.lines(9, 0), book.owes(9, 0)), ([], [], []))
        self.assertEqual(book.bill(0, 9, 0), ([], 0, 0, 0, 0))
        self.assertEqual(book.together(2, 9, 0), (0, [0, 0, 0]))

    def test_none_is_now(self):
        book = book_of(SECOND + [witness(6, 1, 0, 9)])
        self.assertEqual((book.kept(None), book.lines(9, None), book.owes(9, None)),
                         (book.kept(), book.lines(9), book.owes(9)))
        self.assertEqual((book.bill(0, 9, None), book.together(0, 9, None)), (book.bill(0, 9), book.together(0, 9)))
        self.assertEqual(book.lines(9, book.mark()), book.lines(9))

    def test_a_row_undone_later_stands_at_the_marks_before(self):
        book = book_of(TWO + [witness(4, 0, 1, 9)])
        book.undo(2)
        book.step(4, 0, 1, "witness", 8)
        self.assertEqual([[line[2] for line in book.lines(9, mark)] for mark in range(6)], [[], [], [], [9], [], [8]])
        self.assertEqual([len(book.kept(mark)) for mark in range(6)], [0, 1, 2, 3, 2, 3])


class Kept(BookCase):
    def test_texts_in_the_order_of_the_rows(self):
        book = book_of(TWO + [witness(4, 0, 1, 9, "late"), ("offer", 4, 0, 0, 5), ("pay", 4, 1, 0, 3), ("dun", 4, 1),
                              ("rule", 5, 0, [(7, 40), (0, 0)], False), ("carry", 6, 0), ("rule", 7, 1, [], True)])
        self.assertEqual(book.kept(), ["claim 3 0 0 1 100", "claim 3 7 2 0 40", "step 4 0 1 witness 9 late",
                                       "offer 4 0 0 5", "pay 4 1 0 3", "dun 4 1", "rule 5 0 own 7=40 0=0", "carry 6 0",
                                       "rule 7 1 back"])

    def test_without_the_undone_rows(self):
        book = book_of(TWO + [("pay", 4, 1, 0, 3), ("dun", 4, 1)])
        book.undo(2)
        self.assertEqual(book.kept(), ["claim 3 0 0 1 100", "claim 3 7 2 0 40", "dun 4 1"])
        self.assertEqual(book.kept(3), ["claim 3 0 0 1 100", "claim 3 7 2 0 40", "pay 4 1 0 3"])


class NothingIsShared(BookCase):
    def test_what_is_handed_in_is_not_changed(self):
        sides, court, speakers, wins = [1, 2, 3], list(COURT), list(SPEAKERS), [(0, 60), (7, 10)]
        book = Book(sides, court, speakers)
        for deed in TWO + [witness(4, 0, 1, 9)]:
            do(book, deed)
        book.rule(5, 0, wins)
        state_of(book)
        self.assertEqual((sides, court, speakers, wins), ([1, 2, 3], COURT, SPEAKERS, [(0, 60), (7, 10)]))

    def test_what_the_caller_does_later_changes_no_book(self):
        sides, court, speakers, wins = [1, 2, 3], list(COURT), list(SPEAKERS), [(0, 60), (7, 10)]
        book = Book(sides, court, speakers)
        for deed in TWO + [("step", 4, 0, 1, "filing", 9, "none"), ("step", 4, 0, 1, "plea", 9, "none")]:
            do(book, deed)
        book.rule(5, 0, wins)
        before = state_of(book)
        sides.append(4)
        sides[0] = 6
        court[:] = [(1, 0)]
        speakers.clear()
        wins[0] = (0, 1)
        wins.append((9, 9))
        self.assertEqual(state_of(book), before)

    def test_two_books_share_nothing(self):
        sides, court, speakers, wins = [1, 2, 3], list(COURT), list(SPEAKERS), [(0, 60)]
        first, second = Book(sides, court, speakers), Book(sides, court, speakers)
        untouched = state_of(second)
        for deed in TWO + [witness(4, 0, 1, 9), ("rule", 5, 0, wins, False), ("pay", 5, 1, 1, 4), ("dun", 5, 1)]:
            do(first, deed)
        self.assertEqual(state_of(second), untouched)
        before = state_of(first)
        for deed in TWO + [("rule", 5, 0, wins, False), ("undo", 2)]:
            do(second, deed)
        self.assertEqual(state_of(first), before)

    def test_what_was_told_may_be_changed(self):
        book = book_of(TWO + [witness(4, 0, 1, 9), ("pay", 5, 2, 1, 4), ("dun", 5, 1)])
        before = state_of(book)
        for mark in (None, book.mark(), 2):
            for told in (book.kept(mark), book.lines(9, mark), book.bill(1, 9, mark)[0], book.owes(9, mark),
                         book.together(2, 9, mark)[1], book.rows_kept(mark)):
                told.append("more")
                told[0] = "other"
        self.assertEqual(state_of(book), before)


class ByChance(unittest.TestCase):
    SIDES = [2, 1, 3]

    def chance_book(self, chance, many):
        """A book and one by hand with the same deeds, and what the book answered when so many deeds had been done."""
        book, hand, seen = Book(self.SIDES, COURT, SPEAKERS), HandBook(self.SIDES), {}
        told = [all_told(book, self.days(hand), 3)]
        for number in range(many):
            deed = chance_next(chance, hand)
            due = hand.do(deed)
            self.assertEqual(do(book, deed), due, (hand.kept(), deed))
            seen[(deed[0], due if isinstance(due, str) else "taken")] = True
            seen[("over", len(Stand([kept for number, kept in hand.kept()]).over))] = True
            if book.mark() == len(told):
                told.append(all_told(book, self.days(hand), 3))
        return book, hand, told, seen

    def days(self, hand):
        """Two days among the rows' own, a day between, and one behind them all."""
        days = sorted({deed[1] for number, deed in hand.kept()} or {0})
        return [days[len(days) // 2], days[len(days) // 2] + 1, days[-1], days[-1] + 9]

    def test_deeds_refusals_and_questions_at_every_mark(self):
        chance = random.Random(18)
        seen = {}
        for number in range(14):
            book, hand, told, seen_here = self.chance_book(chance, 80)
            seen.update(seen_here)
            self.assertEqual(book.mark(), len(hand.marks) - 1)
            for mark, before in enumerate(told):
                days = self.days_at(hand, mark)
                self.assertEqual(self.told_at(book, days, mark), before[1:])
                for day in (days[1], days[3]):
                    self.assertEqual(book.lines(day, mark), hand.lines(day, mark))
            for day in self.days(hand):
                self.assertEqual(book.owes(day), hand.owes(day))
                for side in range(3):
                    self.assertEqual(book.bill(side, day), hand.bill(side, day))
                    self.assertEqual(book.together(side, day), hand.together(side, day))
        for word in ("claim", "carry", "step", "offer", "rule", "pay", "dun", "undo"):
            self.assertIn((word, "taken"), seen)
        for over in (0, 1, 2, 3):
            self.assertIn(("over", over), seen)
        for pair in (("undo", "NoRow"), ("undo", "Needed"), ("carry", "Twice"), ("offer", "TooMuch"),
                     ("claim", "RoundOver"), ("dun", "TooLate")):
            self.assertIn(pair, seen)

    def days_at(self, hand, mark):
        before = HandBook(hand.sides)
        before.marks = hand.marks[:mark + 1]
        return self.days(before)

    def told_at(self, book, days, mark):
        told = [book.kept(mark)]
        for day in days:
            told += [book.lines(day, mark), book.owes(day, mark)]
            told += [(book.bill(side, day, mark), book.together(side, day, mark)) for side in range(3)]
        return told

    def test_the_texts_kept_lead_to_the_same_bills(self):
        chance = random.Random(19)
        for number in range(10):
            book, hand, told, seen = self.chance_book(chance, 60)
            anew = Book(self.SIDES, COURT, SPEAKERS)
            self.assertEqual(answers(anew, book.kept()), [str(row) for row in range(len(book.kept()))])
            self.assertEqual(anew.kept(), book.kept())
            place = {row: at for at, (row, deed) in enumerate(hand.kept())}
            for day in self.days(hand):
                self.assertEqual(anew.lines(day), [(place[line[0]],) + line[1:] for line in book.lines(day)])
                self.assertEqual(anew.owes(day), book.owes(day))
                for side in range(3):
                    bill = book.bill(side, day)
                    rows = [(place[row], part, reason) for row, part, reason in bill[0]]
                    self.assertEqual(anew.bill(side, day), (rows,) + bill[1:])
                    self.assertEqual(anew.together(side, day), book.together(side, day))


if __name__ == "__main__":
    unittest.main()
