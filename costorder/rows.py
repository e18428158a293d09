"""The rows of a book: their form and texts, what stands by them, what is refused (points 9 to 16, 19 and 31).

A row is a tuple: its number, its deed's word, its day, and then what the deed names.
"""

from costorder.errors import Full, NoClaim, RoundOver, TooLate, TooMuch, Twice
from costorder.parts import WORTH

ROUNDS = 3
MOST_ROWS = 300

# The places within every row.
NUMBER = 0
WORD = 1
DAY = 2

# The claim's number in a claim row and in a carry row; behind a claim row's own three places stands the claim's tuple.
CLAIM = 3

# The round in a step row, an offer row and a rule row.
TURN = 3

STEP_SIDE = 4
STEP_KIND = 5
STEP_MANY = 6
STEP_LAID = 7

OFFER_CLAIM = 4
OFFER_AMOUNT = 5

RULE_BACK = 4
RULE_WINS = 5

PAY_SIDE = 3
PAY_PERSON = 4
PAY_COINS = 5

DUN_SIDE = 3


def claim_row(number, day, claim, asker, answerer, worth):
    return (number, "claim", day, claim, asker, answerer, worth)


def carry_row(number, day, claim):
    return (number, "carry", day, claim)


def step_row(number, day, turn, side, kind, many, laid):
    return (number, "step", day, turn, side, kind, many, laid)


def offer_row(number, day, turn, claim, amount):
    return (number, "offer", day, turn, claim, amount)


def rule_row(number, day, turn, wins, back):
    # A tuple, so that what the caller does later to the list changes no row.
    return (number, "rule", day, turn, back, tuple(wins))


def pay_row(number, day, side, person, coins):
    return (number, "pay", day, side, person, coins)


def dun_row(number, day, side):
    return (number, "dun", day, side)


def row_text(row):
    if row[WORD] == "rule":
        return rule_text(row)
    return " ".join([str(value) for value in row[WORD:]])


def rule_text(row):
    words = ["rule", str(row[DAY]), str(row[TURN]), "back" if row[RULE_BACK] else "own"]
    for claim, won in row[RULE_WINS]:
        words.append(f"{claim}={won}")
    return " ".join(words)


def rounds_of(rows):
    # The claims of each round that is over, then those of the current one. Rulings come in the order of their rounds,
    # since a round gets claims only when the one before it is over, and no round without claims is ruled on.
    rounds = [[]]
    for row in rows:
        put_row(rounds, row)
    return rounds


def put_row(rounds, row):
    if row[WORD] == "claim":
        rounds[0].append(row[CLAIM:])
    elif row[WORD] == "carry":
        rounds[-1].append(find_claim(rounds[-2], row[CLAIM]))
    elif row[WORD] == "rule":
        rounds.append([])


def over_of(rounds):
    return len(rounds) - 1


def claims_of(rounds, turn):
    # Asked before any index: a round below 0 would else be counted from the end.
    if 0 <= turn < len(rounds):
        return list(rounds[turn])
    return []


def find_claim(claims, number):
    for claim in claims:
        if claim[0] == number:
            return claim
    return None


def worth_of(claims):
    return sum([claim[WORTH] for claim in claims])


def rows_until(rows, day):
    return [row for row in rows if row[DAY] <= day]


def check_row(rows, written, row):
    # Raises the first refusal that is due where the row is to come behind the rows kept; `written` counts all rows that
    # the book has, the undone ones too.
    check_next(rounds_of(rows), rows[-1] if rows != [] else None, written, row)


def check_anew(rows):
    # Raises the first refusal that is due where the rows are written in their order into a book without rows.
    rounds = [[]]
    last = None
    for written, row in enumerate(rows):
        check_next(rounds, last, written, row)
        put_row(rounds, row)
        last = row


def check_next(rounds, last, written, row):
    # `last` is the last row kept, or None where there is none.
    if written >= MOST_ROWS:
        raise Full("full")
    if lacks_claim(rounds, row):
        raise NoClaim("no such claim")
    if meets_over(rounds, row):
        raise RoundOver("round over")
    if last is not None and row[DAY] < last[DAY]:
        raise TooLate("too late")
    if comes_twice(rounds, row):
        raise Twice("twice")
    if names_too_much(rounds, row):
        raise TooMuch("too much")


def lacks_claim(rounds, row):
    if row[WORD] == "carry":
        return find_claim(claims_of(rounds, over_of(rounds) - 1), row[CLAIM]) is None
    if row[WORD] == "step":
        return claims_of(rounds, row[TURN]) == []
    if row[WORD] == "offer":
        return find_claim(claims_of(rounds, row[TURN]), row[OFFER_CLAIM]) is None
    if row[WORD] == "rule":
        claims = claims_of(rounds, row[TURN])
        return claims == [] or any([find_claim(claims, claim) is None for claim, won in row[RULE_WINS]])
    return False


def meets_over(rounds, row):
    if row[WORD] == "claim":
        return over_of(rounds) > 0
    if row[WORD] == "carry":
        return over_of(rounds) == ROUNDS
    if row[WORD] in ("step", "offer", "rule"):
        return row[TURN] < over_of(rounds)
    return False


def comes_twice(rounds, row):
    if row[WORD] == "claim":
        return find_claim(rounds[0], row[CLAIM]) is not None
    if row[WORD] == "carry":
        return find_claim(rounds[-1], row[CLAIM]) is not None
    if row[WORD] == "rule":
        named = [claim for claim, won in row[RULE_WINS]]
        return len(set(named)) < len(named)
    return False


def names_too_much(rounds, row):
    if row[WORD] == "offer":
        return row[OFFER_AMOUNT] > worth_in(rounds, row, row[OFFER_CLAIM])
    if row[WORD] == "rule":
        return any([won > worth_in(rounds, row, claim) for claim, won in row[RULE_WINS]])
    return False


def worth_in(rounds, row, claim):
    return find_claim(claims_of(rounds, row[TURN]), claim)[WORTH]
