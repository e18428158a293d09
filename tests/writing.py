"""What the tests of rows and lines share: writing deeds as rows, and the document's words on them, read by hand."""

from costorder import errors, rows

ROUNDS = (0, 1, 2)

MAKERS = {"claim": rows.claim_row, "carry": rows.carry_row, "step": rows.step_row, "offer": rows.offer_row,
          "rule": rows.rule_row, "pay": rows.pay_row, "dun": rows.dun_row}


def row_of(number, deed):
    """The row of a deed, which is told as its word and its arguments in the order of the interface."""
    return MAKERS[deed[0]](number, *deed[1:])


def write(deeds, first=0):
    """The rows of deeds, each of which must be taken."""
    kept = []
    for deed in deeds:
        row = row_of(first + len(kept), deed)
        rows.check_row(kept, len(kept), row)
        kept.append(row)
    return kept


def refusal_of(kept, written, deed):
    """The name of the class with which a deed behind rows kept is refused, or None."""
    try:
        rows.check_row(kept, written, row_of(written, deed))
    except errors.CostError as error:
        return type(error).__name__
    return None


class Stand:
    """What stands by deeds (points 10 and 11): the rounds that are over, and the claims of each round by number."""

    def __init__(self, deeds):
        self.over = []
        self.claims = {turn: {} for turn in ROUNDS}
        for deed in deeds:
            if deed[0] == "claim":
                self.claims[0][deed[2]] = deed[3:]
            if deed[0] == "carry":
                self.claims[self.current()][deed[2]] = self.claims[max(self.over)][deed[2]]
            if deed[0] == "rule":
                self.over.append(deed[2])

    def current(self):
        return min((turn for turn in ROUNDS if turn not in self.over), default=None)

    def of(self, turn):
        return self.claims.get(turn, {})

    def worth(self, turn):
        return sum(worth for asker, answerer, worth in self.of(turn).values())


def all_due(deeds, written, deed):
    """The names of all the refusals that point 16 asks for, in its order."""
    stand = Stand(deeds)
    word, day = deed[:2]
    if word in ("step", "offer", "rule"):
        turn = deed[2]
    named = {"claim": lambda: [], "carry": lambda: [deed[2]], "step": lambda: [], "offer": lambda: [deed[3]],
             "rule": lambda: [claim for claim, won in deed[3]], "pay": lambda: [], "dun": lambda: []}[word]()
    due = []
    if written >= 300:
        due.append("Full")
    if (word == "carry" and (not stand.over or deed[2] not in stand.of(max(stand.over)))
            or word == "step" and not stand.of(turn)
            or word == "offer" and deed[3] not in stand.of(turn)
            or word == "rule" and (not stand.of(turn) or any(claim not in stand.of(turn) for claim in named))):
        due.append("NoClaim")
    if (word == "claim" and 0 in stand.over
            or word == "carry" and stand.current() is None
            or word in ("step", "offer", "rule") and turn in stand.over):
        due.append("RoundOver")
    if deeds and day < deeds[-1][1]:
        due.append("TooLate")
    if (word == "claim" and deed[2] in stand.of(0)
            or word == "carry" and deed[2] in stand.of(stand.current())
            or word == "rule" and any(named.count(claim) > 1 for claim in named)):
        due.append("Twice")
    if word == "offer" and deed[3] in stand.of(turn) and deed[4] > stand.of(turn)[deed[3]][2]:
        due.append("TooMuch")
    if word == "rule" and any(claim in stand.of(turn) and won > stand.of(turn)[claim][2] for claim, won in deed[3]):
        due.append("TooMuch")
    return due


def chance_deed(chance, day, sides):
    """Some deed, right or wrong, over few claims and small worths so that much of it meets."""
    word = chance.choice(("claim", "claim", "carry", "carry", "step", "step", "step", "offer", "offer", "rule", "pay",
                          "dun"))
    asker, answerer = chance.sample(range(sides), 2)
    turn = chance.choice((0, 0, 0, 1, 1, 2, 2))
    claim = chance.randint(0, 4)
    if word == "claim":
        return (word, day, claim, asker, answerer, chance.randint(1, 9))
    if word == "carry":
        return (word, day, claim)
    if word == "step":
        kind = chance.choice(("filing", "hearing", "plea", "speech", "witness", "paper"))
        return (word, day, turn, asker, kind, chance.randint(0, 60), chance.choice(("none", "none", "late", "much")))
    if word == "offer":
        return (word, day, turn, claim, chance.randint(0, 10))
    if word == "rule":
        wins = [(chance.randint(0, 4), chance.randint(0, 7)) for place in range(chance.randint(0, 3))]
        return (word, day, turn, wins, chance.choice((True, False)))
    if word == "pay":
        return (word, day, asker, chance.randint(0, 5), chance.randint(0, 99))
    return (word, day, asker)
