"""The bill of all sides together, cost by cost (points 20 to 23)."""

from costorder.fees import cost_of
from costorder.parts import asked_of, losses, share
from costorder.rows import DAY, NUMBER, OFFER_AMOUNT, OFFER_CLAIM, RULE_BACK, RULE_WINS
from costorder.rows import STEP_KIND, STEP_LAID, STEP_MANY, STEP_SIDE, TURN, WORD
from costorder.rows import claims_of, over_of, put_row, rounds_of, rows_until, worth_of

# The places within a line; the round and the cost stand between the row's number and the reason.
LINE_ROW = 0
LINE_REASON = 3
LINE_PARTS = 4


def lines_of(many, court, speakers, rows, day):
    # `rows` are the rows kept of a book with `many` sides.
    told = rows_until(rows, day)
    costs = costs_of(told, court, speakers)
    rounds = rounds_of(told)
    wins = [wins_of(told, rounds, turn) for turn in range(over_of(rounds))]
    offers = offers_of(told)
    lines = []
    for row in told:
        if row[WORD] == "step":
            lines.append(line_of(many, row, costs[row[NUMBER]], rounds, wins, offers))
    return lines


def line_of(many, step, cost, rounds, wins, offers):
    # `wins` has a list for each round that is over, and none for the current one.
    turn = step[TURN]
    if step[STEP_LAID] != "none":
        return line_of_one(many, step, cost, step[STEP_LAID])
    if turn >= len(wins):
        return line_of_one(many, step, cost, "open")
    left = wins_left(step, rounds[turn], wins[turn], offers)
    reason = "parts" if left == wins[turn] else "offer"
    return line_of_all(many, step, cost, reason, rounds[turn], left)


def costs_of(rows, court, speakers):
    # The cost of each step row by its number; a claim that comes behind a step does not change it.
    rounds = [[]]
    costs = {}
    for row in rows:
        if row[WORD] == "step":
            worth = worth_of(claims_of(rounds, row[TURN]))
            costs[row[NUMBER]] = cost_of(row[STEP_KIND], row[STEP_MANY], worth, court, speakers)
        put_row(rounds, row)
    return costs


def wins_of(rows, rounds, turn):
    # What each claim of a round that is over has won. The rulings come in the order of their rounds: so the latest
    # word on a claim is the one that stays.
    wins = {}
    for row in rows:
        if row[WORD] == "rule" and (row[TURN] == turn or (row[TURN] > turn and row[RULE_BACK])):
            named = dict(row[RULE_WINS])
            for claim in rounds[row[TURN]]:
                wins[claim[0]] = named.get(claim[0], 0)
    return [wins[claim[0]] for claim in rounds[turn]]


def won_on(rows, turn, number, day):
    # What a claim has won in a round by that day; 0 while the round is not over, when no offer can turn it yet.
    told = rows_until(rows, day)
    rounds = rounds_of(told)
    if turn >= over_of(rounds):
        return 0
    numbers = [claim[0] for claim in rounds[turn]]
    return dict(zip(numbers, wins_of(told, rounds, turn))).get(number, 0)


def offers_of(rows):
    # The offers for each claim of each round, so that a step looks through no others.
    offers = {}
    for row in rows:
        if row[WORD] == "offer":
            place = (row[TURN], row[OFFER_CLAIM])
            offers[place] = offers.get(place, []) + [row]
    return offers


def wins_left(step, claims, wins, offers):
    # What the claims have won for this cost: 0 where one is turned.
    left = []
    for claim, won in zip(claims, wins):
        turned = is_turned(step, won, offers.get((step[TURN], claim[0]), []))
        left.append(0 if turned else won)
    return left


def is_turned(step, won, offers):
    return won > 0 and any([row[DAY] <= step[DAY] and row[OFFER_AMOUNT] >= won for row in offers])


def line_of_one(many, step, cost, reason):
    parts = [cost if side == step[STEP_SIDE] else 0 for side in range(many)]
    return (step[NUMBER], step[TURN], cost, reason, tuple(parts))


def line_of_all(many, step, cost, reason, claims, wins):
    parts = share(cost, losses(many, claims, wins), asked_of(many, claims))
    return (step[NUMBER], step[TURN], cost, reason, tuple(parts))
