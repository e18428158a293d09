"""What a step at court costs (points 2 to 4)."""

KINDS = ("filing", "hearing", "plea", "speech", "witness", "paper")

COURT_TENTHS = {"filing": 30, "hearing": 10}
SPEAKERS_TENTHS = {"plea": 13, "speech": 12}

FIRST_PAGES = 50
FIRST_PAGE_COINS = 50
FURTHER_PAGE_COINS = 15


def fee_of(table, worth):
    for limit, fee in table:
        if limit >= worth:
            return fee
    return table[-1][1]


def pages_cost(pages):
    first = min(pages, FIRST_PAGES)
    return first * FIRST_PAGE_COINS + (pages - first) * FURTHER_PAGE_COINS


def tenths_cost(fee, tenths, many):
    # Divided once, behind both products: rounding each one by itself would lose coins.
    return fee * tenths * many // 10


def cost_of(kind, many, worth, court, speakers):
    if kind == "witness":
        return many
    if kind == "paper":
        return pages_cost(many)
    if kind in COURT_TENTHS:
        return tenths_cost(fee_of(court, worth), COURT_TENTHS[kind], many)
    return tenths_cost(fee_of(speakers, worth), SPEAKERS_TENTHS[kind], many)
