"""What an offer changes (points 1 and 28 to 30)."""

import random
import unittest

from costorder import errors
from costorder.book import Book
from costorder.offers import least_offer, supposed, with_without
from writing import COURT, SPEAKERS, HandBook, all_told, book_of, chance_next, do, new_book

LAST = 6000

# Three sides: side 0 asks side 1 for 100 coins, side 2 asks side 0 for 40.
TWO = [("claim", 3, 0, 0, 1, 100), ("claim", 3, 7, 2, 0, 40)]


def witness(day, turn, side, coins, laid="none"):
    return ("step", day, turn, side, "witness", coins, laid)


RULED = [("rule", 9, 0, [(0, 60), (7, 10)], False)]
# Rows 2 and 3 are steps, row 4 is the ruling.
STEPS = TWO + [witness(4, 0, 1, 140), witness(6, 0, 1, 140)] + RULED

PARTS = ("parts", (50, 60, 30))
TURNED = ("offer", (110, 0, 30))


def words(both):
    """Of the two lists the reasons and parts alone."""
    return tuple([line[3:] for line in lines] for lines in both)


class OfferCase(unittest.TestCase):
    def refused(self, name, ask, book, *rest):
        before = all_told(book, (0, 4, 9, LAST), 3)
        with self.assertRaises(getattr(errors, name)) as raised:
            ask(book, *rest)
        self.assertEqual(type(raised.exception).__name__, name)
        self.assertEqual(all_told(book, (0, 4, 9, LAST), 3), before)


class WithWithout(OfferCase):
    DEEDS = TWO + [("offer", 4, 0, 0, 60), witness(4, 0, 1, 140), ("offer", 5, 0, 7, 10), witness(6, 0, 1, 140)] + RULED

    def test_the_lines_as_they_are_and_without_the_offer(self):
        book = book_of(self.DEEDS)
        told = with_without(book, 2, 9)
        self.assertEqual(told, ([(3, 0, 140, "offer", (110, 0, 30)), (5, 0, 140, "offer", (100, 0, 40))],
                                [(3, 0, 140, "parts", (50, 60, 30)), (5, 0, 140, "offer", (40, 60, 40))]))
        self.assertEqual(words(with_without(book, 4, 9)),
                         ([TURNED, ("offer", (100, 0, 40))], [TURNED, TURNED]))

    def test_the_kinds(self):
        told = with_without(book_of(self.DEEDS), 2, 9)
        self.assertIs(type(told), tuple)
        self.assertEqual([type(lines) for lines in told], [list, list])

    def test_a_day_before_the_ruling(self):
        book = book_of(self.DEEDS)
        for day in (0, 4, 5, 8):
            self.assertEqual(with_without(book, 2, day), (book.lines(day), book.lines(day)))

    def test_beside_another_offer_it_changes_nothing(self):
        book = book_of(TWO + [("offer", 4, 0, 0, 60), ("offer", 4, 0, 0, 99), witness(4, 0, 1, 140)] + RULED)
        for row in (2, 3):
            self.assertEqual(words(with_without(book, row, 9)), ([TURNED], [TURNED]))

    def test_the_same_as_in_a_book_without_it(self):
        book = book_of(self.DEEDS)
        told = with_without(book, 2, 9)
        self.assertEqual(told[0], book.lines(9))
        book.undo(2)
        self.assertEqual(told[1], book.lines(9))

    def test_a_row_that_is_no_offer(self):
        book = book_of(self.DEEDS + [("carry", 9, 0), ("pay", 9, 0, 0, 1), ("dun", 9, 0)])
        for row in (0, 1, 3, 5, 6, 7, 8, 9):
            self.refused("NoRow", with_without, book, row, 9)

    def test_a_number_that_no_row_has(self):
        book = book_of(self.DEEDS)
        for row in (-1, -3, -5, 7, 8, 300):
            self.refused("NoRow", with_without, book, row, 9)
        self.refused("NoRow", with_without, new_book(), 0, 9)

    def test_an_undone_offer(self):
        book = book_of(self.DEEDS)
        book.undo(2)
        self.refused("NoRow", with_without, book, 2, 9)
        self.assertEqual(words(with_without(book, 4, 9))[1], [PARTS, PARTS])


class Supposed(OfferCase):
    def test_one_more_offer_and_as_it_is(self):
        book = book_of(STEPS)
        self.assertEqual(supposed(book, 9, 0, 0, 4, 60),
                         ([(2, 0, 140, "offer", (110, 0, 30)), (3, 0, 140, "offer", (110, 0, 30))],
                          [(2, 0, 140, "parts", (50, 60, 30)), (3, 0, 140, "parts", (50, 60, 30))]))
        self.assertEqual(words(supposed(book, 9, 0, 0, 4, 59)), ([PARTS, PARTS], [PARTS, PARTS]))

    def test_the_kinds(self):
        told = supposed(book_of(STEPS), 9, 0, 0, 4, 60)
        self.assertIs(type(told), tuple)
        self.assertEqual([type(lines) for lines in told], [list, list])

    def test_by_the_offer_s_day(self):
        book = book_of(STEPS)
        for when, turned in ((0, 2), (4, 2), (5, 1), (6, 1), (7, 0), (9, 0), (LAST, 0)):
            told = words(supposed(book, 9, 0, 0, when, 60))
            self.assertEqual(told, ([PARTS] * (2 - turned) + [TURNED] * turned, [PARTS, PARTS]))

    def test_a_round_that_is_over_and_a_day_behind_the_ruling(self):
        book = book_of(STEPS + [("carry", 10, 0), ("rule", 11, 1, [], False)])
        self.assertEqual(words(supposed(book, 20, 0, 0, 4, 60))[0], [TURNED, TURNED])
        self.assertEqual(words(supposed(book, 20, 0, 0, 15, 60))[0], [PARTS, PARTS])
        self.assertEqual(words(supposed(book, 20, 1, 0, 15, 60))[0], [PARTS, PARTS])

    def test_a_round_that_is_not_over(self):
        book = book_of(STEPS[:-1])
        self.assertEqual(supposed(book, 9, 0, 0, 4, 60), (book.lines(9), book.lines(9)))

    def test_a_day_before_the_claim_and_before_the_ruling(self):
        book = book_of(STEPS)
        self.assertEqual(supposed(book, 0, 0, 0, 0, 60), ([], []))
        self.assertEqual(words(supposed(book, 8, 0, 0, 4, 60)), ([("open", (0, 140, 0))] * 2,) * 2)

    def test_in_a_later_round(self):
        book = book_of(STEPS + [("carry", 10, 0), witness(10, 1, 1, 100), ("rule", 11, 1, [(0, 70)], False)])
        told = words(supposed(book, 11, 1, 0, 10, 70))
        self.assertEqual(told, ([PARTS, PARTS, ("offer", (100, 0, 0))], [PARTS, PARTS, ("parts", (30, 70, 0))]))
        self.assertEqual(words(supposed(book, 11, 0, 0, 4, 70))[0], [TURNED, TURNED, ("parts", (30, 70, 0))])

    def test_by_a_later_word(self):
        book = book_of(STEPS + [("carry", 10, 0), ("rule", 11, 1, [(0, 70)], True)])
        later = ("parts", (40, 70, 30))
        self.assertEqual(words(supposed(book, 11, 0, 0, 4, 69)), ([later] * 2, [later] * 2))
        self.assertEqual(words(supposed(book, 11, 0, 0, 4, 70)), ([TURNED] * 2, [later] * 2))
        self.assertEqual(words(supposed(book, 10, 0, 0, 4, 69)), ([TURNED] * 2, [PARTS] * 2))

    def test_a_claim_that_does_not_stand_in_the_round(self):
        book = book_of(STEPS + [("carry", 10, 0)])
        for turn, claim in ((0, 1), (1, 7), (2, 0), (3, 0), (-1, 0)):
            self.refused("NoClaim", supposed, book, 9, turn, claim, 4, 1)
        self.refused("NoClaim", supposed, book, 9, 1, 7, 4, 999)
        self.refused("NoClaim", supposed, new_book(), 9, 0, 0, 4, 1)

    def test_a_claim_that_was_undone(self):
        book = book_of(TWO)
        book.undo(1)
        self.refused("NoClaim", supposed, book, 9, 0, 7, 4, 1)

    def test_an_amount_above_the_worth(self):
        book = book_of(STEPS + [("carry", 10, 7)])
        for turn, claim, worth in ((0, 0, 100), (0, 7, 40), (1, 7, 40)):
            supposed(book, 9, turn, claim, 4, worth)
            self.refused("TooMuch", supposed, book, 9, turn, claim, 4, worth + 1)
        self.refused("TooMuch", supposed, book, 0, 0, 0, LAST, 101)

    def test_a_full_book(self):
        book = book_of(STEPS)
        while book.mark() < 300:
            book.pay(9, 0, 0, 1)
        self.assertEqual(words(supposed(book, 9, 0, 0, 4, 60))[0], [TURNED, TURNED])

    def test_the_same_as_in_a_book_with_it(self):
        with_offer = book_of(TWO + [witness(4, 0, 1, 140), ("offer", 6, 0, 0, 60), witness(6, 0, 1, 140)] + RULED)
        told = supposed(book_of(STEPS), 9, 0, 0, 6, 60)[0]
        self.assertEqual([line[1:] for line in told], [line[1:] for line in with_offer.lines(9)])


class LeastOffer(OfferCase):
    def test_just_what_was_won(self):
        book = book_of(STEPS)
        self.assertEqual(least_offer(book, 9, 0, 0, 4), 60)
        self.assertIs(type(least_offer(book, 9, 0, 0, 4)), int)
        self.assertEqual(least_offer(book, 9, 0, 7, 4), 10)
        self.assertEqual([least_offer(book, 9, 0, 0, when) for when in (0, 6, 7, LAST)], [60, 60, None, None])

    def test_all_of_the_worth_and_one_coin(self):
        for won in (1, 100):
            book = book_of(TWO + [witness(4, 0, 1, 140), ("rule", 9, 0, [(0, won)], False)])
            self.assertEqual(least_offer(book, 9, 0, 0, 4), won)

    def test_none_while_the_round_is_not_over(self):
        book = book_of(STEPS)
        self.assertEqual([least_offer(book, day, 0, 0, 4) for day in (0, 3, 8, 9)], [None, None, None, 60])
        self.assertIsNone(least_offer(book_of(STEPS[:-1]), 9, 0, 0, 4))

    def test_none_where_the_claim_won_nothing(self):
        book = book_of(TWO + [witness(4, 0, 1, 140), ("rule", 9, 0, [(7, 10)], False)])
        self.assertIsNone(least_offer(book, 9, 0, 0, 4))

    def test_none_without_a_cost_that_it_could_change(self):
        self.assertIsNone(least_offer(book_of(TWO + RULED), 9, 0, 0, 3))
        laid = TWO + [witness(4, 0, 1, 140, "late"), witness(4, 0, 1, 140, "much"), witness(4, 0, 1, 0)] + RULED
        self.assertIsNone(least_offer(book_of(laid), 9, 0, 0, 3))

    def test_none_where_an_offer_turned_the_claim_already(self):
        deeds = TWO + [("offer", 3, 0, 0, 60), witness(4, 0, 1, 140)] + RULED
        self.assertIsNone(least_offer(book_of(deeds), 9, 0, 0, 3))
        deeds = TWO + [witness(4, 0, 1, 140), ("offer", 5, 0, 0, 60), witness(5, 0, 1, 140)] + RULED
        self.assertEqual(least_offer(book_of(deeds), 9, 0, 0, 4), 60)
        self.assertIsNone(least_offer(book_of(deeds), 9, 0, 0, 5))

    def test_none_where_the_reason_alone_differs(self):
        # One coin: side 0 lost most either way.
        book = book_of(TWO + [witness(4, 0, 1, 1), ("rule", 9, 0, [(0, 1)], False)])
        with_it, without = supposed(book, 9, 0, 0, 4, 1)
        self.assertEqual((with_it[0][3:], without[0][3:]), (("offer", (1, 0, 0)), ("parts", (1, 0, 0))))
        self.assertIsNone(least_offer(book, 9, 0, 0, 4))

    def test_by_a_later_word(self):
        book = book_of(STEPS + [("carry", 10, 0), witness(10, 1, 1, 9), ("rule", 11, 1, [(0, 70)], True)])
        self.assertEqual([least_offer(book, day, 0, 0, 4) for day in (8, 9, 10, 11)], [None, 60, 60, 70])
        self.assertEqual([least_offer(book, day, 1, 0, 4) for day in (8, 9, 10, 11)], [None, None, None, 70])

    def test_a_claim_that_does_not_stand_in_the_round(self):
        book = book_of(STEPS + [("carry", 10, 0)])
        for turn, claim in ((0, 1), (1, 7), (2, 0), (3, 0), (-1, 0)):
            self.refused("NoClaim", least_offer, book, 9, turn, claim, 4)
        self.refused("NoClaim", least_offer, new_book(), 9, 0, 0, 4)

    def test_great_worths_are_no_burden(self):
        most = 9999999999
        book = book_of([("claim", 0, 0, 0, 1, most), witness(0, 0, 1, most), ("rule", 1, 0, [(0, most - 1)], False)])
        self.assertEqual(least_offer(book, 1, 0, 0, 0), most - 1)


class NothingIsChanged(unittest.TestCase):
    def test_asking_changes_no_book(self):
        book = book_of(TWO + [("offer", 3, 0, 0, 50), witness(4, 0, 1, 140), ("dun", 5, 1)] + RULED)
        before = all_told(book, (0, 4, 9, LAST), 3)
        for told in (with_without(book, 2, 9), supposed(book, 9, 0, 0, 4, 60)):
            for lines in told:
                lines.append("more")
                lines[0] = "other"
        least_offer(book, 9, 0, 0, 4)
        self.assertEqual(all_told(book, (0, 4, 9, LAST), 3), before)
        self.assertEqual(words(supposed(book, 9, 0, 0, 4, 60)), ([TURNED], [PARTS]))


def differs(both):
    return any(one[4] != other[4] for one, other in zip(both[0], both[1]))


class ByChance(unittest.TestCase):
    SIDES = [1, 2, 1]

    def chance_book(self, chance):
        book, hand = Book(self.SIDES, COURT, SPEAKERS), HandBook(self.SIDES)
        for number in range(70):
            deed = chance_next(chance, hand)
            self.assertEqual(do(book, deed), hand.do(deed))
        return book, hand

    def hand_with(self, hand, deeds):
        """The book by hand with other rows kept."""
        other = HandBook(hand.sides)
        other.marks = [deeds]
        return other

    def test_against_the_words_of_the_points(self):
        chance = random.Random(30)
        seen = {}
        for number in range(80):
            book, hand = self.chance_book(chance)
            last = max([deed[1] for row, deed in hand.kept()], default=0)
            days = [chance.randint(0, last + 1), last]
            for day in days:
                for row, deed in hand.kept():
                    if deed[0] == "offer":
                        without = self.hand_with(hand, [entry for entry in hand.kept() if entry[0] != row])
                        self.assertEqual(with_without(book, row, day), (hand.lines(day), without.lines(day)))
                claims = [(turn, claim) for turn in (0, 1, 2) for claim in range(5)]
                for turn, claim in claims:
                    self.ask(book, hand, (day, turn, claim, chance.randint(0, last + 1)), seen)
        self.assertEqual(sorted(seen), ["NoClaim", "amount", "none"])

    def ask(self, book, hand, question, seen):
        day, turn, claim, when = question
        try:
            least = least_offer(book, *question)
        except errors.NoClaim:
            seen["NoClaim"] = True
            self.assertRaises(errors.NoClaim, supposed, book, *question, 0)
            return
        seen["none" if least is None else "amount"] = True
        changing = []
        for amount in range(11):
            try:
                told = supposed(book, *question, amount)
            except errors.TooMuch:
                break
            more = self.hand_with(hand, hand.kept() + [(-1, ("offer", when, turn, claim, amount))])
            self.assertEqual(told, (more.lines(day), hand.lines(day)))
            if differs(told):
                changing.append(amount)
        self.assertEqual(least, changing[0] if changing else None)


if __name__ == "__main__":
    unittest.main()
