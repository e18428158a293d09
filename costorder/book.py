"""The book of one quarrel: its deeds and its questions (points 9 to 27)."""

from costorder.bills import BILL_DUE, bills_of, paid_by_people
from costorder.debts import among, settle
from costorder.errors import CostError, Needed, NoRow
from costorder.lines import lines_of
from costorder.rows import NUMBER, carry_row, check_anew, check_row, claim_row, dun_row, offer_row, pay_row, row_text
from costorder.rows import rule_row, step_row


class Book:
    def __init__(self, sides, court, speakers):
        # Copies, so that what the caller does later to the lists changes no book.
        self.people = list(sides)
        self.court = list(court)
        self.speakers = list(speakers)
        # Every row written, and beside it the mark with which it came and the one with which it was undone, or None.
        self.rows = []
        self.came = []
        self.went = []
        self.done = 0

    def claim(self, day, claim, asker, answerer, worth):
        return self.write(claim_row(len(self.rows), day, claim, asker, answerer, worth))

    def carry(self, day, claim):
        return self.write(carry_row(len(self.rows), day, claim))

    def step(self, day, turn, side, kind, many, laid="none"):
        return self.write(step_row(len(self.rows), day, turn, side, kind, many, laid))

    def offer(self, day, turn, claim, amount):
        return self.write(offer_row(len(self.rows), day, turn, claim, amount))

    def rule(self, day, turn, wins, back=False):
        return self.write(rule_row(len(self.rows), day, turn, wins, back))

    def pay(self, day, side, person, coins):
        return self.write(pay_row(len(self.rows), day, side, person, coins))

    def dun(self, day, side):
        return self.write(dun_row(len(self.rows), day, side))

    def write(self, row):
        check_row(self.rows_kept(), len(self.rows), row)
        self.done += 1
        self.rows.append(row)
        self.came.append(self.done)
        self.went.append(None)
        return row[NUMBER]

    def undo(self, row):
        kept = self.rows_kept()
        others = [other for other in kept if other[NUMBER] != row]
        if len(others) == len(kept):
            raise NoRow("no such row")
        try:
            check_anew(others)
        except CostError:
            raise Needed("needed") from None
        self.done += 1
        self.went[row] = self.done
        return row

    def mark(self):
        return self.done

    def rows_kept(self, mark=None):
        at = self.done if mark is None else mark
        return [row for row, came, went in zip(self.rows, self.came, self.went)
                if came <= at and (went is None or at < went)]

    def kept(self, mark=None):
        return [row_text(row) for row in self.rows_kept(mark)]

    def lines(self, day, mark=None):
        return self.lines_by(self.rows_kept(mark), day)

    def lines_by(self, rows, day):
        # By rows that are handed in, so that one can ask what would be if others stood.
        return lines_of(len(self.people), self.court, self.speakers, rows, day)

    def bills(self, day, mark):
        return bills_of(len(self.people), self.court, self.speakers, self.rows_kept(mark), day)

    def bill(self, side, day, mark=None):
        return self.bills(day, mark)[side]

    def owes(self, day, mark=None):
        return settle([bill[BILL_DUE] for bill in self.bills(day, mark)])

    def together(self, side, day, mark=None):
        due = self.bill(side, day, mark)[BILL_DUE]
        paid = paid_by_people(self.rows_kept(mark), side, self.people[side], day)
        return (max(due, 0), among(paid))
