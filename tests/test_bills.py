"""Bills, interest, who owes whom and what people owe together (points 1, 18 and 24 to 27)."""

import random
import unittest

from costorder.bills import bills_of, paid_by_people
from costorder.book import Book
from costorder.debts import OFFICE, among, interest, settle
from writing import COURT, SPEAKERS, HandBook, book_of, chance_next, do, row_of

LAST = 6000
MOST = 9999999999

# Owed through one day, this is one coin of interest.
DAY_COIN = 7300

# Three sides: side 0 asks side 1 for 100 coins, side 2 asks side 0 for 40.
TWO = [("claim", 3, 0, 0, 1, 100), ("claim", 3, 7, 2, 0, 40)]


def witness(day, turn, side, coins, laid="none"):
    return ("step", day, turn, side, "witness", coins, laid)


def interests(book, side, days):
    return [book.bill(side, day)[2] for day in days]


class Bill(unittest.TestCase):
    def test_rows_borne_interest_paid_and_due(self):
        book = book_of(TWO + [witness(4, 0, 1, 140), witness(5, 0, 0, 8, "much"), ("pay", 6, 1, 0, 30), ("pay", 6, 1, 1, 40),
                              ("rule", 8, 0, [(0, 60), (7, 10)], False)])
        self.assertEqual(book.bill(0, 8), ([(2, 50, "parts"), (3, 8, "much")], 58, 0, 0, 58))
        self.assertEqual(book.bill(1, 8), ([(2, 60, "parts")], 60, 0, 70, -10))
        self.assertEqual(book.bill(2, 8), ([(2, 30, "parts")], 30, 0, 0, 30))

    def test_the_bill_of_a_day_before_the_ruling(self):
        book = book_of(TWO + [witness(4, 0, 1, 140), ("pay", 6, 1, 0, 30), ("rule", 8, 0, [(0, 60), (7, 10)], False)])
        self.assertEqual(book.bill(1, 3), ([], 0, 0, 0, 0))
        self.assertEqual(book.bill(1, 4), ([(2, 140, "open")], 140, 0, 0, 140))
        self.assertEqual(book.bill(1, 5), ([(2, 140, "open")], 140, 0, 0, 140))
        self.assertEqual(book.bill(1, 6), ([(2, 140, "open")], 140, 0, 30, 110))
        self.assertEqual(book.bill(0, 7), ([], 0, 0, 0, 0))

    def test_lines_of_which_a_side_bears_nothing_are_left_out(self):
        book = book_of(TWO + [witness(4, 0, 1, 0), witness(4, 0, 2, 5), witness(4, 0, 1, 1)])
        self.assertEqual(book.bill(1, 9)[0], [(4, 1, "open")])
        self.assertEqual(book.bill(2, 9)[0], [(3, 5, "open")])
        self.assertEqual(book.bill(0, 9)[0], [])

    def test_every_reason(self):
        book = book_of(TWO + [witness(4, 0, 1, 140), ("offer", 5, 0, 0, 60), witness(5, 0, 1, 140),
                              witness(6, 0, 0, 9, "late"), witness(6, 0, 0, 8, "much"),
                              ("rule", 8, 0, [(0, 60), (7, 10)], False), ("carry", 9, 0), witness(9, 1, 0, 100)])
        self.assertEqual(book.bill(0, 9)[:2], ([(2, 50, "parts"), (4, 110, "offer"), (5, 9, "late"), (6, 8, "much"),
                                                (9, 100, "open")], 277))

    def test_due_may_be_below_nought(self):
        book = book_of([("pay", 0, 2, 2, MOST)])
        self.assertEqual(book.bill(2, 0), ([], 0, 0, MOST, -MOST))

    def test_payments_of_a_later_day_and_of_other_sides_do_not_count(self):
        book = book_of([("pay", 1, 1, 0, 5), ("pay", 2, 1, 1, 7), ("pay", 2, 2, 1, 11), ("pay", 3, 1, 0, 13)])
        self.assertEqual([book.bill(1, day)[3] for day in range(5)], [0, 5, 12, 25, 25])
        self.assertEqual([book.bill(2, day)[3] for day in range(5)], [0, 0, 11, 11, 11])

    def test_an_undone_payment_counts_no_more(self):
        book = book_of([("pay", 1, 1, 0, 5), ("pay", 2, 1, 1, 7)])
        book.undo(0)
        self.assertEqual(book.bill(1, 9)[3:], (7, -7))
        self.assertEqual(book.bill(1, 9, 2)[3:], (12, -12))


class Interest(unittest.TestCase):
    def one(self, *more):
        """Side 1 owes a coin of interest for each day from day 4 on."""
        return book_of([("claim", 3, 0, 0, 1, 100), witness(4, 0, 1, DAY_COIN)] + list(more))

    def test_none_without_a_dunning(self):
        self.assertEqual(interests(self.one(), 1, (4, 5, LAST)), [0, 0, 0])

    def test_from_the_dunning_s_day_to_the_day_before_the_bill(self):
        book = self.one(("dun", 10, 1))
        self.assertEqual(interests(book, 1, (4, 9, 10, 11, 12, 20, 375)), [0, 0, 0, 1, 2, 10, 365])
        self.assertEqual(book.bill(1, 12), ([(1, DAY_COIN, "open")], DAY_COIN, 2, 0, DAY_COIN + 2))

    def test_five_for_a_hundred_through_365_days(self):
        book = book_of([TWO[0], witness(3, 0, 0, 100), ("dun", 3, 0)])
        self.assertEqual(interests(book, 0, (3 + 364, 3 + 365, 3 + 366, 3 + 730)), [4, 5, 5, 10])

    def test_days_up_to_6000(self):
        book = book_of([("claim", 0, 0, 0, 1, 100), witness(0, 0, 1, DAY_COIN), ("dun", 0, 1)])
        self.assertEqual(interests(book, 1, (1, 5999, 6000, 6001)), [1, 5999, 6000, 6001])
        book = book_of([("claim", 6000, 0, 0, 1, 100), witness(6000, 0, 1, DAY_COIN), ("dun", 6000, 1)])
        self.assertEqual(interests(book, 1, (5999, 6000)), [0, 0])

    def test_great_numbers(self):
        book = book_of([("claim", 0, 0, 0, 1, 100), ("dun", 0, 1)] + [witness(0, 0, 1, MOST)] * 290)
        self.assertEqual(interests(book, 1, (6000,)), [5 * 290 * MOST * 6000 // 36500])

    def test_of_the_dunned_side_alone(self):
        book = self.one(witness(4, 0, 0, DAY_COIN), ("dun", 10, 1))
        self.assertEqual(interests(book, 0, (11, 20)), [0, 0])
        self.assertEqual(interests(book, 2, (11, 20)), [0, 0])

    def test_a_second_dunning_changes_nothing(self):
        book = self.one(("dun", 10, 1), ("dun", 15, 1))
        self.assertEqual(interests(book, 1, (12, 15, 16, 20)), [2, 5, 6, 10])
        book = self.one(("dun", 10, 1), ("dun", 10, 1), ("dun", 10, 0))
        self.assertEqual(interests(book, 1, (20,)), [10])

    def test_a_first_dunning_undone(self):
        book = self.one(("dun", 10, 1), ("dun", 15, 1))
        book.undo(2)
        self.assertEqual(interests(book, 1, (15, 16, 20)), [0, 1, 5])
        self.assertEqual(book.bill(1, 20, 4)[2], 10)
        book.undo(3)
        self.assertEqual(interests(book, 1, (20,)), [0])

    def test_a_dunning_ahead_of_every_claim(self):
        book = book_of([("dun", 0, 1), ("claim", 3, 0, 0, 1, 100), witness(4, 0, 1, DAY_COIN)])
        self.assertEqual(interests(book, 1, (3, 4, 5, 6)), [0, 0, 1, 2])

    def test_what_is_owed_changes_between_days(self):
        book = self.one(("dun", 10, 1), witness(12, 0, 1, 2 * DAY_COIN), ("pay", 15, 1, 0, DAY_COIN))
        # A coin for days 10 and 11, three for 12 to 14, two from 15 on.
        self.assertEqual(interests(book, 1, range(10, 19)), [0, 1, 2, 5, 8, 11, 13, 15, 17])

    def test_the_whole_of_a_day_counts(self):
        # What comes on a day counts for that day, in whatever order it came.
        book = self.one(("dun", 10, 1), ("pay", 10, 1, 1, DAY_COIN))
        self.assertEqual(interests(book, 1, (11, 20)), [0, 0])
        book = book_of([("claim", 3, 0, 0, 1, 100), ("dun", 4, 1), witness(4, 0, 1, DAY_COIN), witness(4, 0, 1, DAY_COIN)])
        self.assertEqual(interests(book, 1, (5, 6)), [2, 4])

    def test_payments_ahead_bear_no_interest(self):
        book = book_of([("pay", 0, 1, 0, DAY_COIN), ("dun", 0, 1), ("claim", 3, 0, 0, 1, 100),
                        witness(10, 0, 1, 2 * DAY_COIN)])
        # The days before day 10 on which the side had paid too much take nothing away.
        self.assertEqual(interests(book, 1, (0, 5, 10, 11, 12)), [0, 0, 0, 1, 2])

    def test_paid_in_full_and_owed_again(self):
        book = self.one(("dun", 5, 1), ("pay", 7, 1, 0, DAY_COIN), witness(9, 0, 1, DAY_COIN))
        self.assertEqual(interests(book, 1, range(5, 12)), [0, 1, 2, 2, 2, 3, 4])

    def test_rounded_down_once_over_all_days(self):
        # Half a coin a day, with rows between that change nothing.
        book = book_of([("claim", 3, 0, 0, 1, 100), witness(4, 0, 1, DAY_COIN // 2), ("dun", 4, 1), ("pay", 5, 1, 0, 0),
                        ("pay", 6, 1, 0, 0), ("pay", 7, 1, 0, 0)])
        self.assertEqual(interests(book, 1, range(4, 12)), [0, 0, 1, 1, 2, 2, 3, 3])

    def test_a_coin_day_short_of_a_coin(self):
        # Paid on day 5: the days on which nothing is owed, and those on which too much was paid, add nothing.
        for more in (0, 1):
            book = book_of([("claim", 3, 0, 0, 1, 100), witness(4, 0, 1, DAY_COIN - 1), ("dun", 4, 1),
                            ("pay", 5, 1, 0, DAY_COIN - 1 + more)])
            self.assertEqual(interests(book, 1, (5, 6, LAST)), [0, 0, 0])
        book = book_of([("claim", 3, 0, 0, 1, 100), witness(4, 0, 1, DAY_COIN - 1), ("dun", 4, 1), witness(5, 0, 1, 1),
                        ("pay", 6, 1, 0, DAY_COIN - 1)])
        self.assertEqual(interests(book, 1, (5, 6, 7)), [0, 1, 2])

    def test_interest_bears_no_interest_and_is_not_paid_first(self):
        book = self.one(("dun", 10, 1), ("pay", 20, 1, 0, DAY_COIN))
        self.assertEqual(interests(book, 1, (20, 21, LAST)), [10, 10, 10])
        self.assertEqual(book.bill(1, LAST)[4], 10)

    def test_a_ruling_changes_what_is_owed_from_its_day_on(self):
        # Side 0 bears all from day 12 on: claim 0 has won nothing.
        book = self.one(("dun", 10, 0), ("dun", 10, 1), ("rule", 12, 0, [], False))
        self.assertEqual(interests(book, 1, (11, 12, 13, 20)), [1, 2, 2, 2])
        self.assertEqual(interests(book, 0, (11, 12, 13, 20)), [0, 0, 1, 8])

    def test_a_later_word_changes_no_interest_of_the_days_before_it(self):
        deeds = [("dun", 10, 0), ("dun", 10, 1), ("rule", 12, 0, [], False), ("carry", 13, 0)]
        book = self.one(*deeds)
        before = [[book.bill(side, day) for day in range(16)] for side in (0, 1, 2)]
        book.rule(15, 1, [(0, 100)], True)
        for side in (0, 1, 2):
            self.assertEqual([book.bill(side, day)[2] for day in range(16)], [bill[2] for bill in before[side]])
            self.assertEqual([book.bill(side, day) for day in range(15)], before[side][:15])
        # Side 1 bears it again from day 15 on: two coins of days 10 and 11, three for side 0 of days 12 to 14.
        self.assertEqual(interests(book, 1, (15, 16, 17)), [2, 3, 4])
        self.assertEqual(interests(book, 0, (15, 16, 17)), [3, 3, 3])

    def test_two_rulings_and_steps_on_one_day(self):
        book = book_of([("claim", 4, 0, 0, 1, 100), ("dun", 4, 0), ("dun", 4, 1), witness(4, 0, 1, DAY_COIN),
                        ("rule", 4, 0, [], False), ("carry", 4, 0), witness(4, 1, 1, DAY_COIN),
                        ("rule", 4, 1, [(0, 100)], True), ("carry", 4, 0), witness(4, 2, 0, DAY_COIN)])
        self.assertEqual(interests(book, 0, (4, 5, 6)), [0, 1, 2])
        self.assertEqual(interests(book, 1, (4, 5, 6)), [0, 2, 4])

    def test_at_a_mark(self):
        book = self.one(("dun", 10, 1), ("pay", 10, 1, 0, DAY_COIN))
        self.assertEqual([book.bill(1, 20, mark)[2] for mark in range(5)], [0, 0, 0, 10, 0])


class WhoOwesWhom(unittest.TestCase):
    def test_settle_of_the_dues(self):
        book = book_of(TWO + [witness(4, 0, 1, 140), ("pay", 6, 1, 0, 100), ("pay", 6, 2, 0, 5), ("dun", 6, 0),
                              ("rule", 8, 0, [(0, 60), (7, 10)], False)])
        # The dues are 50, -40 and 25.
        self.assertEqual(book.owes(8), [(0, 1, 40), (0, OFFICE, 10), (2, OFFICE, 25)])
        self.assertEqual(book.owes(7), [(1, 2, 5), (1, OFFICE, 35)])
        self.assertEqual(book.owes(5), [(1, OFFICE, 140)])
        self.assertEqual(book.owes(3), [])

    def test_the_office_pays_what_is_over(self):
        book = book_of([("pay", 1, 0, 0, 7), ("pay", 1, 2, 1, 9)])
        self.assertEqual(book.owes(1), [(OFFICE, 0, 7), (OFFICE, 2, 9)])
        self.assertEqual(book.owes(0), [])
        self.assertEqual(book.owes(1, 1), [(OFFICE, 0, 7)])

    def test_interest_is_owed_too(self):
        book = book_of(TWO + [witness(4, 0, 1, DAY_COIN), ("dun", 4, 1), ("pay", 4, 0, 0, DAY_COIN)])
        self.assertEqual(book.owes(10), [(1, 0, DAY_COIN), (1, OFFICE, 6)])


class Together(unittest.TestCase):
    def test_asked_and_between(self):
        book = book_of(TWO + [witness(4, 0, 2, 100), ("pay", 5, 2, 1, 9), ("pay", 6, 2, 2, 2), ("pay", 6, 2, 1, 1)])
        self.assertEqual(book.together(2, 4), (100, [0, 0, 0]))
        self.assertEqual(book.together(2, 5), (91, [-3, 6, -3]))
        self.assertEqual(book.together(2, 6), (88, [-4, 6, -2]))
        self.assertEqual(book.together(2, 6)[1], among([0, 10, 2]))
        self.assertEqual(book.together(2, 6, 4), (91, [-3, 6, -3]))

    def test_nothing_is_asked_where_the_due_is_not_above_nought(self):
        book = book_of(TWO + [witness(4, 0, 1, 10), ("pay", 5, 1, 0, 10), ("pay", 6, 1, 1, 1)])
        self.assertEqual(book.together(1, 5), (0, [5, -5]))
        self.assertEqual(book.bill(1, 6)[4], -1)
        self.assertEqual(book.together(1, 6), (0, [10 - 6, 1 - 5]))

    def test_a_side_of_one_person(self):
        book = book_of(TWO + [witness(4, 0, 0, 10), ("pay", 5, 0, 0, 3)])
        self.assertEqual(book.together(0, 5), (7, [0]))

    def test_interest_is_asked_too(self):
        book = book_of(TWO + [witness(4, 0, 1, DAY_COIN), ("dun", 4, 1)])
        self.assertEqual(book.together(1, 6), (DAY_COIN + 2, [0, 0]))


class ByRows(unittest.TestCase):
    """What a book hands to costorder.bills is enough for it."""

    def test_all_bills_at_once(self):
        kept = [row_of(number, deed) for number, deed in enumerate(TWO + [witness(4, 0, 1, 140), ("pay", 6, 1, 0, 30)])]
        self.assertEqual(bills_of(3, COURT, SPEAKERS, kept, 9),
                         [([], 0, 0, 0, 0), ([(2, 140, "open")], 140, 0, 30, 110), ([], 0, 0, 0, 0)])

    def test_what_people_paid(self):
        kept = [row_of(0, ("pay", 1, 1, 0, 5)), row_of(1, ("pay", 2, 1, 2, 7)), row_of(2, ("pay", 3, 0, 0, 9))]
        self.assertEqual(paid_by_people(kept, 1, 3, 1), [5, 0, 0])
        self.assertEqual(paid_by_people(kept, 1, 3, 9), [5, 0, 7])
        self.assertEqual(paid_by_people(kept, 0, 1, 9), [9])


class ByChance(unittest.TestCase):
    def test_against_the_words_of_the_points_day_by_day(self):
        chance = random.Random(25)
        seen = {}
        for number in range(60):
            sides = [chance.randint(1, 6) for side in range(chance.randint(2, 4))]
            book, hand = Book(sides, COURT, SPEAKERS), HandBook(sides)
            for turn in range(60):
                deed = chance_next(chance, hand)
                if deed[0] == "step":
                    deed = deed[:4] + ("witness", chance.randint(0, 30000)) + deed[6:]
                if deed[0] == "pay":
                    deed = deed[:4] + (chance.randint(0, 20000),)
                self.assertEqual(do(book, deed), hand.do(deed))
            last = max([deed[1] for row, deed in hand.kept()], default=0)
            for day in sorted(chance.sample(range(last + 6), 6)) + [last + 40]:
                bills = [hand.bill(side, day) for side in range(len(sides))]
                self.assertEqual([book.bill(side, day) for side in range(len(sides))], bills, hand.kept())
                self.assertEqual(book.owes(day), settle([bill[4] for bill in bills]))
                for side, bill in enumerate(bills):
                    asked, between = book.together(side, day)
                    self.assertEqual(asked, max(0, bill[4]))
                    self.assertEqual((between, sum(between)), (among(hand.paid(side, day, None)), 0))
                    self.assertEqual(bill[2], interest(hand.coin_days(side, day, None)))
                    seen[(bill[2] > 0, bill[4] > 0)] = True
        self.assertEqual(len(seen), 4)


if __name__ == "__main__":
    unittest.main()
