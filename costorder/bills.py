"""What each side and each person of it bears, owes and paid (points 24 to 27)."""

from costorder.debts import interest
from costorder.lines import LINE_PARTS, LINE_REASON, LINE_ROW, costs_of, lines_of
from costorder.rows import DAY, DUN_SIDE, NUMBER, PAY_COINS, PAY_PERSON, PAY_SIDE, STEP_SIDE, WORD, rows_until

# The place within a bill of what is due.
BILL_DUE = 4


def bills_of(many, court, speakers, rows, day):
    # The bills of all sides at once, as they stand on the same lines; `rows` are the rows kept of a book with `many`
    # sides.
    told = rows_until(rows, day)
    lines = lines_of(many, court, speakers, told, day)
    owed = owed_of(many, court, speakers, told)
    return [bill_of(side, lines, told, interest(coin_days_of(side, told, owed, day))) for side in range(many)]


def bill_of(side, lines, rows, charged):
    borne_rows = [(line[LINE_ROW], line[LINE_PARTS][side], line[LINE_REASON]) for line in lines
                  if line[LINE_PARTS][side] > 0]
    borne = sum([part for row, part, reason in borne_rows])
    paid = sum([row[PAY_COINS] for row in pays_of(rows, side)])
    return (borne_rows, borne, charged, paid, borne + charged - paid)


def pays_of(rows, side):
    return [row for row in rows if row[WORD] == "pay" and row[PAY_SIDE] == side]


def paid_by_people(rows, side, people, day):
    paid = [0] * people
    for row in pays_of(rows_until(rows, day), side):
        paid[row[PAY_PERSON]] += row[PAY_COINS]
    return paid


def owed_of(many, court, speakers, rows):
    # For each row its day and what each side owes, borne less paid, by the rows up to it. A step is borne by its own
    # side when it is written, as none comes into a round that is over: only a ruling parts anew what was borne before.
    costs = costs_of(rows, court, speakers)
    borne = [0] * many
    paid = [0] * many
    owed = []
    for place, row in enumerate(rows):
        if row[WORD] == "rule":
            borne = borne_by(many, lines_of(many, court, speakers, rows[:place + 1], row[DAY]))
        elif row[WORD] == "step":
            borne[row[STEP_SIDE]] += costs[row[NUMBER]]
        elif row[WORD] == "pay":
            paid[row[PAY_SIDE]] += row[PAY_COINS]
        owed.append((row[DAY], [coins - gone for coins, gone in zip(borne, paid)]))
    return owed


def borne_by(many, lines):
    return [sum([line[LINE_PARTS][side] for line in lines]) for side in range(many)]


def coin_days_of(side, rows, owed, day):
    # What is owed stays the same from one row's day to the next one's: so no walk over single days is needed.
    first = first_dun(rows, side)
    if first is None:
        return 0
    ends = [since for since, coins in owed[1:]] + [day]
    coin_days = 0
    for entry, end in zip(owed, ends):
        days = end - max(entry[0], first)
        if days > 0:
            coin_days += max(entry[1][side], 0) * days
    return coin_days


def first_dun(rows, side):
    # The rows stand in the order of their days.
    for row in rows:
        if row[WORD] == "dun" and row[DUN_SIDE] == side:
            return row[DAY]
    return None
