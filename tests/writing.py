"""What the tests share: writing deeds as rows and in books, and the document's words on them, read by hand."""

from costorder import errors, rows
from costorder.book import Book
from costorder.debts import among, settle
from costorder.fees import cost_of
from costorder.parts import share

ROUNDS = (0, 1, 2)

COURT = [(100, 20), (1000, 45), (5000, 90)]
SPEAKERS = [(100, 31), (1000, 70)]

MAKERS = {"claim": rows.claim_row, "carry": rows.carry_row, "step": rows.step_row, "offer": rows.offer_row,
          "rule": rows.rule_row, "pay": rows.pay_row, "dun": rows.dun_row}


def row_of(number, deed):
    """The row of a deed, which is told as its word and its arguments in the order of the interface."""
    return MAKERS[deed[0]](number, *deed[1:])


def write(deeds, first=0):
    """The rows of deeds, each of which must be taken."""
    kept = []
    for deed in deeds:
        row = row_of(first + len(kept), deed)
        rows.check_row(kept, len(kept), row)
        kept.append(row)
    return kept


def refusal_of(kept, written, deed):
    """The name of the class with which a deed behind rows kept is refused, or None."""
    try:
        rows.check_row(kept, written, row_of(written, deed))
    except errors.CostError as error:
        return type(error).__name__
    return None


class Stand:
    """What stands by deeds (points 10 and 11): the rounds that are over, and the claims of each round by number."""

    def __init__(self, deeds):
        self.over = []
        self.claims = {turn: {} for turn in ROUNDS}
        for deed in deeds:
            if deed[0] == "claim":
                self.claims[0][deed[2]] = deed[3:]
            if deed[0] == "carry":
                self.claims[self.current()][deed[2]] = self.claims[max(self.over)][deed[2]]
            if deed[0] == "rule":
                self.over.append(deed[2])

    def current(self):
        return min((turn for turn in ROUNDS if turn not in self.over), default=None)

    def of(self, turn):
        return self.claims.get(turn, {})

    def worth(self, turn):
        return sum(worth for asker, answerer, worth in self.of(turn).values())


def all_due(deeds, written, deed):
    """The names of all the refusals that point 16 asks for, in its order."""
    stand = Stand(deeds)
    word, day = deed[:2]
    if word in ("step", "offer", "rule"):
        turn = deed[2]
    named = {"claim": lambda: [], "carry": lambda: [deed[2]], "step": lambda: [], "offer": lambda: [deed[3]],
             "rule": lambda: [claim for claim, won in deed[3]], "pay": lambda: [], "dun": lambda: []}[word]()
    due = []
    if written >= 300:
        due.append("Full")
    if (word == "carry" and (not stand.over or deed[2] not in stand.of(max(stand.over)))
            or word == "step" and not stand.of(turn)
            or word == "offer" and deed[3] not in stand.of(turn)
            or word == "rule" and (not stand.of(turn) or any(claim not in stand.of(turn) for claim in named))):
        due.append("NoClaim")
    if (word == "claim" and 0 in stand.over
            or word == "carry" and stand.current() is None
            or word in ("step", "offer", "rule") and turn in stand.over):
        due.append("RoundOver")
    if deeds and day < deeds[-1][1]:
        due.append("TooLate")
    if (word == "claim" and deed[2] in stand.of(0)
            or word == "carry" and deed[2] in stand.of(stand.current())
            or word == "rule" and any(named.count(claim) > 1 for claim in named)):
        due.append("Twice")
    if word == "offer" and deed[3] in stand.of(turn) and deed[4] > stand.of(turn)[deed[3]][2]:
        due.append("TooMuch")
    if word == "rule" and any(claim in stand.of(turn) and won > stand.of(turn)[claim][2] for claim, won in deed[3]):
        due.append("TooMuch")
    return due


def won_by_hand(deeds, turn, claim):
    """Point 22: the own ruling's word, but the latest later ruling's that looks back and has the claim in its round."""
    stand = Stand(deeds)
    word = None
    for later in (0, 1, 2):
        for deed in deeds:
            if deed[0] == "rule" and deed[2] == later and claim in stand.of(later):
                if later == turn or (later > turn and deed[4]):
                    word = sum(won for number, won in deed[3] if number == claim)
    return word


def line_by_hand(deeds, number, sides):
    """Points 12 and 21 to 23 on one step, claim by claim; `deeds` are those of the day, in their order."""
    word, day, turn, side, kind, many, laid = deeds[number]
    cost = cost_of(kind, many, Stand(deeds[:number]).worth(turn), COURT, SPEAKERS)
    alone = tuple(cost if each == side else 0 for each in range(sides))
    stand = Stand(deeds)
    if laid in ("late", "much"):
        return (number, turn, cost, laid, alone)
    if turn not in stand.over:
        return (number, turn, cost, "open", alone)
    lost, asked, reason = [0] * sides, [0] * sides, "parts"
    for claim, (asker, answerer, worth) in stand.of(turn).items():
        won = won_by_hand(deeds, turn, claim)
        good = [deed for deed in deeds if deed[0] == "offer" and deed[2] == turn and deed[3] == claim
                and deed[1] <= day and deed[4] >= won]
        if won > 0 and good:
            won, reason = 0, "offer"
        lost[asker] += worth - won
        lost[answerer] += won
        asked[asker] += worth
    return (number, turn, cost, reason, tuple(share(cost, lost, asked)))


class HandBook:
    """A book by the document's words alone, day by day and deed by deed: for every mark the rows kept, with numbers."""

    def __init__(self, sides):
        self.sides = sides
        self.marks = [[]]
        self.written = 0

    def kept(self, mark=None):
        return self.marks[-1 if mark is None else mark]

    def until(self, day, mark):
        return [(number, deed) for number, deed in self.kept(mark) if deed[1] <= day]

    def do(self, deed):
        """The row's number, or the name of the refusal."""
        if deed[0] == "undo":
            return self.undo(deed[1])
        due = all_due([kept for number, kept in self.kept()], self.written, deed)
        if due:
            return due[0]
        self.marks.append(self.kept() + [(self.written, deed)])
        self.written += 1
        return self.written - 1

    def undo(self, number):
        if number not in [row for row, deed in self.kept()]:
            return "NoRow"
        others = [(row, deed) for row, deed in self.kept() if row != number]
        for place, (row, deed) in enumerate(others):
            if all_due([before for other, before in others[:place]], place, deed):
                return "Needed"
        self.marks.append(others)
        return number

    def lines(self, day, mark=None):
        until = self.until(day, mark)
        deeds = [deed for number, deed in until]
        return [(number,) + line_by_hand(deeds, place, len(self.sides))[1:]
                for place, (number, deed) in enumerate(until) if deed[0] == "step"]

    def paid(self, side, day, mark):
        people = [0] * self.sides[side]
        for number, deed in self.until(day, mark):
            if deed[0] == "pay" and deed[2] == side:
                people[deed[3]] += deed[4]
        return people

    def coin_days(self, side, day, mark):
        duns = [deed[1] for number, deed in self.kept(mark) if deed[0] == "dun" and deed[2] == side]
        total = 0
        for each in range(min(duns, default=day), day):
            borne = sum(line[4][side] for line in self.lines(each, mark))
            total += max(0, borne - sum(self.paid(side, each, mark)))
        return total

    def bill(self, side, day, mark=None):
        rows_borne = [(line[0], line[4][side], line[3]) for line in self.lines(day, mark) if line[4][side] > 0]
        borne = sum(part for row, part, reason in rows_borne)
        charged = 5 * self.coin_days(side, day, mark) // 36500
        paid = sum(self.paid(side, day, mark))
        return (rows_borne, borne, charged, paid, borne + charged - paid)

    def owes(self, day, mark=None):
        return settle([self.bill(side, day, mark)[4] for side in range(len(self.sides))])

    def together(self, side, day, mark=None):
        return (max(0, self.bill(side, day, mark)[4]), among(self.paid(side, day, mark)))


def new_book(sides=(1, 2, 3)):
    return Book(list(sides), list(COURT), list(SPEAKERS))


def do(book, deed):
    """The row's number, or the name of the class with which the book refuses the deed."""
    try:
        return getattr(book, deed[0])(*deed[1:])
    except errors.CostError as error:
        return type(error).__name__


def book_of(deeds, sides=(1, 2, 3)):
    """A book with these deeds, each of which must be taken."""
    book = new_book(sides)
    for deed in deeds:
        assert isinstance(do(book, deed), int), deed
    return book


def all_told(book, days, sides):
    """What a book answers to every question of every one of these days."""
    told = [book.mark(), book.kept()]
    for day in days:
        told += [book.lines(day), book.owes(day)]
        told += [(book.bill(side, day), book.together(side, day)) for side in range(sides)]
    return told


def chance_deed(chance, day, sides):
    """Some deed, right or wrong, over few claims and small worths so that much of it meets."""
    word = chance.choice(("claim", "claim", "carry", "carry", "step", "step", "step", "offer", "offer", "rule", "pay",
                          "dun"))
    asker, answerer = chance.sample(range(sides), 2)
    turn = chance.choice((0, 0, 0, 1, 1, 2, 2))
    claim = chance.randint(0, 4)
    if word == "claim":
        return (word, day, claim, asker, answerer, chance.randint(1, 9))
    if word == "carry":
        return (word, day, claim)
    if word == "step":
        kind = chance.choice(("filing", "hearing", "plea", "speech", "witness", "paper"))
        return (word, day, turn, asker, kind, chance.randint(0, 60), chance.choice(("none", "none", "late", "much")))
    if word == "offer":
        return (word, day, turn, claim, chance.randint(0, 10))
    if word == "rule":
        wins = [(chance.randint(0, 4), chance.randint(0, 7)) for place in range(chance.randint(0, 3))]
        return (word, day, turn, wins, chance.choice((True, False)))
    if word == "pay":
        return (word, day, asker, chance.randint(0, 5), chance.randint(0, 99))
    return (word, day, asker)


def chance_next(chance, hand):
    """Some deed behind those of a book by hand, undoing too: seldom refused, so that rounds come to their end."""
    kept = [deed for number, deed in hand.kept()]
    deed = None
    for tries in range(4):
        day = max(0, (kept[-1][1] if kept else 1) + chance.choice((-1, 0, 0, 0, 1, 1, 4)))
        deed = chance_deed(chance, day, len(hand.sides))
        if deed[0] == "pay":
            deed = deed[:3] + (deed[3] % hand.sides[deed[2]],) + deed[4:]
        if deed[0] in ("rule", "step", "offer") and chance.random() < 0.9:
            deed = chance_in_round(chance, deed, Stand(kept))
        if chance.random() < 0.1:
            deed = ("undo", chance.randint(-1, hand.written))
        if deed[0] == "undo" or chance.random() < 0.2 or not all_due(kept, hand.written, deed):
            break
    return deed


def chance_in_round(chance, deed, stand):
    """A step, an offer or a ruling as it is taken in the current round: few rulings, so that a round has some rows."""
    turn, claims = stand.current(), list(stand.of(stand.current()).items())
    if not claims:
        return ("dun", deed[1], 0)
    claim, (asker, answerer, worth) = chance.choice(claims)
    if deed[0] == "step":
        return deed[:2] + (turn,) + deed[3:]
    if deed[0] == "offer" or chance.random() < 0.6:
        return ("offer", deed[1], turn, claim, chance.randint(0, worth + 1))
    wins = [(number, chance.randint(0, most)) for number, (pleads, answers, most) in claims]
    return ("rule", deed[1], turn, wins[:chance.randint(0, 5)], chance.choice((True, False)))
