"""What is owed: interest, who pays whom, and what people of one side owe one another (points 8, 26 and 27)."""

from costorder.parts import even

OFFICE = -1

INTEREST_COINS = 5
# 100 coins owed through 365 days.
INTEREST_COIN_DAYS = 36500


def interest(coin_days):
    return INTEREST_COINS * coin_days // INTEREST_COIN_DAYS


def settle(dues):
    left = list(dues)
    told = []
    for payer in range(len(left)):
        for getter in range(len(left)):
            # Above 0 only where the one still pays and the other still gets.
            coins = min(left[payer], -left[getter])
            if coins > 0:
                told.append((payer, getter, coins))
                left[payer] -= coins
                left[getter] += coins
    return told + settle_with_office(left)


def settle_with_office(left):
    told = []
    for side, coins in enumerate(left):
        if coins > 0:
            told.append((side, OFFICE, coins))
        elif coins < 0:
            told.append((OFFICE, side, -coins))
    return told


def among(paid):
    parts = even(sum(paid), len(paid))
    return [coins - part for coins, part in zip(paid, parts)]
