"""How coins are parted, and what the sides lost and asked (points 5 to 7)."""

# The places within a claim's tuple; place 0 is its number, which no sum needs.
ASKER = 1
ANSWERER = 2
WORTH = 3


def share(cost, lost, asked):
    total = sum(lost)
    parts = [cost * coins // total for coins in lost]
    over = cost - sum(parts)
    # Sides that lost nothing come last, and fewer coins are over than there are others: so they get none.
    order = sorted(range(len(lost)), key=lambda side: (-lost[side], -asked[side], side))
    for side in order[:over]:
        parts[side] += 1
    return parts


def even(coins, many):
    each = coins // many
    over = coins % many
    return [each + 1 if person < over else each for person in range(many)]


def losses(many, claims, wins):
    lost = [0] * many
    for claim, won in zip(claims, wins):
        lost[claim[ASKER]] += claim[WORTH] - won
        lost[claim[ANSWERER]] += won
    return lost


def asked_of(many, claims):
    asked = [0] * many
    for claim in claims:
        asked[claim[ASKER]] += claim[WORTH]
    return asked
