"""The office (points 1, 19 and 31 to 33)."""

import random
import unittest

from costorder.book import Book
from costorder.office import answers
from costorder.offers import least_offer
from writing import COURT, SPEAKERS, HandBook, all_told, book_of, chance_next, do, new_book

LAST = 6000
MOST = 9999999999

# Side 0 asks side 1 for 100 coins, side 2 asks side 0 for 40.
TWO = ["claim 3 0 0 1 100", "claim 3 7 2 0 40"]

WORDS = {"Full": "full", "NoClaim": "no such claim", "RoundOver": "round over", "TooLate": "too late", "Twice": "twice",
         "TooMuch": "too much", "NoRow": "no such row", "Needed": "needed"}


def told_of(texts, sides=(1, 2, 3)):
    """The last answer of a new book to these texts."""
    return answers(new_book(sides), texts)[-1]


class Deeds(unittest.TestCase):
    TEXTS = TWO + ["step 4 0 1 witness 140 none", "step 4 0 2 plea 3 late", "step 4 0 0 paper 51 much", "offer 5 0 0 60",
                   "pay 6 2 1 30", "dun 6 1", "rule 9 0 own 0=60 7=10", "carry 10 7", "carry 10 0", "rule 11 1 back 7=0"]
    DEEDS = [("claim", 3, 0, 0, 1, 100), ("claim", 3, 7, 2, 0, 40), ("step", 4, 0, 1, "witness", 140, "none"),
             ("step", 4, 0, 2, "plea", 3, "late"), ("step", 4, 0, 0, "paper", 51, "much"), ("offer", 5, 0, 0, 60),
             ("pay", 6, 2, 1, 30), ("dun", 6, 1), ("rule", 9, 0, [(0, 60), (7, 10)], False), ("carry", 10, 7),
             ("carry", 10, 0), ("rule", 11, 1, [(7, 0)], True)]

    def test_each_deed_is_done_and_answered_with_its_row(self):
        book = new_book()
        self.assertEqual(answers(book, self.TEXTS), [str(row) for row in range(12)])
        self.assertEqual(book.kept(), self.TEXTS)
        other = book_of(self.DEEDS)
        self.assertEqual(all_told(book, range(13), 3), all_told(other, range(13), 3))

    def test_one_text_at_a_time(self):
        for place, deed in enumerate(self.DEEDS):
            book, other = book_of(self.DEEDS[:place]), book_of(self.DEEDS[:place + 1])
            self.assertEqual(answers(book, [self.TEXTS[place]]), [str(place)])
            self.assertEqual(all_told(book, (3, 9, 12), 3), all_told(other, (3, 9, 12), 3))

    def test_a_rule_with_its_wins_in_their_order(self):
        for text in ("rule 9 0 own", "rule 9 0 back", "rule 9 0 own 7=40", "rule 9 0 back 7=0 0=100"):
            book = new_book()
            self.assertEqual(answers(book, TWO + [text])[-1], "2")
            self.assertEqual(book.kept()[-1], text)

    def test_undo(self):
        book = new_book()
        self.assertEqual(answers(book, TWO + ["undo 1", "claim 4 7 0 2 9", "undo 0", "mark"]), ["0", "1", "1", "2", "0", "5"])
        self.assertEqual(book.kept(), ["claim 4 7 0 2 9"])

    def test_great_numbers(self):
        book = new_book()
        texts = [f"claim 6000 19 2 0 {MOST}", f"step 6000 0 2 witness {MOST} none", f"pay 6000 2 2 {MOST}"]
        self.assertEqual(answers(book, texts + ["bill 6000 2"]),
                         ["0", "1", "2", f"1:{MOST}:open borne {MOST} interest 0 paid {MOST} due 0"])
        self.assertEqual(book.kept(), texts)

    def test_no_texts(self):
        book = new_book()
        self.assertEqual(answers(book, []), [])
        self.assertEqual(book.mark(), 0)


class Refusals(unittest.TestCase):
    def refused(self, words, texts):
        self.assertEqual(told_of(texts), "refused: " + words)

    def test_each_deed_s_refusals_in_the_document_s_words(self):
        over = TWO + ["rule 5 0 own", "carry 6 7"]
        done = over + ["rule 7 1 own", "carry 8 7", "rule 9 2 own"]
        for words, texts in (("no such claim", ["carry 1 0"]), ("no such claim", ["step 1 0 0 plea 1 none"]),
                             ("no such claim", TWO + ["offer 4 0 1 1"]), ("no such claim", TWO + ["rule 4 0 own 1=1"]),
                             ("round over", over + ["claim 6 1 0 1 5"]), ("round over", done + ["carry 9 7"]),
                             ("round over", over + ["step 6 0 0 plea 1 none"]), ("round over", over + ["offer 6 0 0 1"]),
                             ("round over", over + ["rule 6 0 back"]), ("too late", TWO + ["pay 2 0 0 1"]),
                             ("too late", TWO + ["dun 2 0"]), ("twice", TWO + ["claim 3 0 0 1 5"]),
                             ("twice", over + ["carry 6 7"]), ("twice", TWO + ["rule 4 0 own 0=1 0=1"]),
                             ("too much", TWO + ["offer 4 0 7 41"]), ("too much", TWO + ["rule 4 0 back 0=101"]),
                             ("no such row", TWO + ["undo 2"]), ("no such row", TWO + ["undo 1", "undo 1"]),
                             ("needed", TWO + ["offer 3 0 0 1", "undo 0"]), ("no such claim", TWO + ["least 9 0 1 3"])):
            self.refused(words, texts)

    def test_a_full_book(self):
        told = answers(new_book(), ["dun 0 0"] * 301 + ["undo 299", "dun 0 0", "mark"])
        self.assertEqual(told[298:], ["298", "299", "refused: full", "299", "refused: full", "301"])

    def test_the_next_text_goes_on_and_nothing_was_changed(self):
        book = new_book()
        told = answers(book, ["carry 1 0", TWO[0], TWO[0], "undo 5", TWO[1], "mark"])
        self.assertEqual(told, ["refused: no such claim", "0", "refused: twice", "refused: no such row", "1", "2"])
        self.assertEqual(book.kept(), TWO)


class Bills(unittest.TestCase):
    TEXTS = TWO + ["step 4 0 1 witness 140 none", "step 5 0 0 witness 8 much", "pay 6 1 0 70", "dun 6 0",
                   "rule 8 0 own 0=60 7=10"]

    def test_the_form_of_a_bill(self):
        texts = ["claim 0 0 0 1 40", "step 0 0 0 witness 40 none", "pay 0 0 0 40", "step 0 0 0 witness 10 late",
                 "rule 1 0 own 0=15", "bill 1 0"]
        self.assertEqual(told_of(texts), "1:25:parts 3:10:late borne 35 interest 0 paid 40 due -5")

    def test_bills_of_several_sides_and_days(self):
        told = answers(new_book(), self.TEXTS + ["bill 8 0", "bill 8 1", "bill 8 2", "bill 5 1", "bill 0 1"])[7:]
        self.assertEqual(told, ["2:50:parts 3:8:much borne 58 interest 0 paid 0 due 58",
                                "2:60:parts borne 60 interest 0 paid 70 due -10",
                                "2:30:parts borne 30 interest 0 paid 0 due 30",
                                "2:140:open borne 140 interest 0 paid 0 due 140",
                                "borne 0 interest 0 paid 0 due 0"])

    def test_interest(self):
        texts = ["claim 0 0 0 1 40", "step 0 0 0 witness 7300 none", "dun 2 0", "bill 9 0"]
        self.assertEqual(told_of(texts), "1:7300:open borne 7300 interest 7 paid 0 due 7307")

    def test_then(self):
        told = answers(new_book(), self.TEXTS + ["then 7 8 1", "then 4 8 1", "then 2 8 1", "then 0 8 1", "undo 4",
                                                 "then 7 8 1", "then 8 8 1", "bill 8 1"])[7:]
        self.assertEqual(told, ["2:60:parts borne 60 interest 0 paid 70 due -10",
                                "2:140:open borne 140 interest 0 paid 0 due 140", "borne 0 interest 0 paid 0 due 0",
                                "borne 0 interest 0 paid 0 due 0", "4", "2:60:parts borne 60 interest 0 paid 70 due -10",
                                "2:60:parts borne 60 interest 0 paid 0 due 60",
                                "2:60:parts borne 60 interest 0 paid 0 due 60"])

    def test_the_order_of_day_and_side(self):
        self.assertEqual(told_of(["pay 1 2 0 5", "bill 1 2"]), "borne 0 interest 0 paid 5 due -5")
        self.assertEqual(told_of(["pay 1 2 0 5", "bill 2 1"]), "borne 0 interest 0 paid 0 due 0")
        self.assertEqual(told_of(["pay 1 2 0 5", "then 1 1 2"]), "borne 0 interest 0 paid 5 due -5")
        self.assertEqual(told_of(["pay 1 2 0 5", "together 1 2"]), "asked 0 between 3 -2 -1")


class OtherQuestions(unittest.TestCase):
    def test_owes(self):
        told = answers(new_book(), Bills.TEXTS + ["owes 8", "owes 5", "owes 4", "owes 3"])[7:]
        self.assertEqual(told, ["0>1:10 0>office:48 2>office:30", "0>office:8 1>office:140", "1>office:140", "nobody"])

    def test_the_office_pays(self):
        self.assertEqual(told_of(["pay 1 0 0 5", "pay 1 2 0 7", "owes 1"]), "office>0:5 office>2:7")
        self.assertEqual(told_of(["owes 1"]), "nobody")

    def test_together(self):
        texts = TWO + ["step 4 0 2 witness 100 none", "pay 5 2 1 9", "pay 6 2 2 2"]
        told = answers(new_book(), texts + ["together 4 2", "together 5 2", "together 6 2", "together 6 0", "together 6 1"])
        self.assertEqual(told[5:], ["asked 100 between 0 0 0", "asked 91 between -3 6 -3", "asked 89 between -4 5 -1",
                                    "asked 0 between 0", "asked 0 between 0 0"])

    def test_least(self):
        texts = TWO + ["step 4 0 1 witness 140 none", "rule 9 0 own 0=60"]
        told = answers(new_book(), texts + ["least 9 0 0 4", "least 9 0 0 5", "least 8 0 0 4", "least 9 0 7 4", "least 9 1 0 4"])
        self.assertEqual(told[4:], ["60", "none", "none", "none", "refused: no such claim"])

    def test_mark(self):
        self.assertEqual(answers(new_book(), ["mark"] + TWO + ["mark", "carry 9 9", "mark", "undo 0", "mark"]),
                         ["0", "0", "1", "2", "refused: no such claim", "2", "0", "3"])

    def test_questions_change_nothing(self):
        book = new_book()
        answers(book, Bills.TEXTS)
        before = all_told(book, (0, 4, 8, LAST), 3)
        answers(book, ["bill 8 0", "then 3 8 0", "owes 8", "together 8 0", "least 8 0 0 4", "mark", "least 8 2 0 4"])
        self.assertEqual(all_told(book, (0, 4, 8, LAST), 3), before)


class HandedIn(unittest.TestCase):
    def test_the_texts_stay_as_they_are_and_the_answers_are_new(self):
        texts = TWO + ["carry 9 9", "mark"]
        book = new_book()
        told = answers(book, texts)
        self.assertEqual(texts, TWO + ["carry 9 9", "mark"])
        self.assertIs(type(told), list)
        self.assertEqual([type(text) for text in told], [str] * 4)
        told.append("more")
        texts[0] = "claim 3 0 0 1 999"
        self.assertEqual(book.kept(), TWO)
        self.assertEqual(answers(book, ["mark"]), ["2"])


class ByChance(unittest.TestCase):
    SIDES = [2, 1, 3]

    def text_of(self, deed):
        if deed[0] != "rule":
            return " ".join(str(part) for part in deed)
        day, turn, wins, back = deed[1:]
        return " ".join(["rule", str(day), str(turn), "back" if back else "own"] + [f"{claim}={won}" for claim, won in wins])

    def ask(self, book, day, side, turn, claim):
        rows, borne, charged, paid, due = book.bill(side, day)
        bill = " ".join([f"{row}:{part}:{reason}" for row, part, reason in rows]
                        + ["borne", str(borne), "interest", str(charged), "paid", str(paid), "due", str(due)])
        name = {-1: "office"}
        owes = [f"{name.get(payer, payer)}>{name.get(getter, getter)}:{coins}" for payer, getter, coins in book.owes(day)]
        asked, between = book.together(side, day)
        try:
            least = least_offer(book, day, turn, claim, day)
            least = "none" if least is None else str(least)
        except ValueError:
            least = "refused: no such claim"
        return {f"bill {day} {side}": bill, f"then {book.mark()} {day} {side}": bill, f"owes {day}": " ".join(owes) or "nobody",
                f"together {day} {side}": " ".join(["asked", str(asked), "between"] + [str(coins) for coins in between]),
                f"least {day} {turn} {claim} {day}": least, "mark": str(book.mark())}

    def test_beside_a_book_that_is_asked_itself(self):
        chance = random.Random(31)
        for number in range(25):
            book, other, hand = Book(self.SIDES, COURT, SPEAKERS), Book(self.SIDES, COURT, SPEAKERS), HandBook(self.SIDES)
            for turn in range(50):
                deed = chance_next(chance, hand)
                if deed[0] == "undo" and deed[1] < 0:
                    continue
                hand.do(deed)
                due = do(other, deed)
                told = answers(book, [self.text_of(deed)])
                self.assertEqual(told, ["refused: " + WORDS[due] if isinstance(due, str) else str(due)])
                asked = self.ask(other, chance.randint(0, 30), chance.randint(0, 2), chance.randint(0, 2), chance.randint(0, 4))
                self.assertEqual(answers(book, list(asked)), list(asked.values()))
            self.assertEqual(book.kept(), other.kept())


if __name__ == "__main__":
    unittest.main()
