"""What an offer changes, or would have changed (points 28 to 30)."""

from costorder.errors import NoClaim, NoRow, TooMuch
from costorder.lines import LINE_PARTS, won_on
from costorder.parts import WORTH
from costorder.rows import NUMBER, WORD, claims_of, find_claim, offer_row, rounds_of

# No line tells the number of an offer, so any does for one that is only supposed.
SUPPOSED = -1


def with_without(book, row, day):
    kept = book.rows_kept()
    others = [other for other in kept if other[NUMBER] != row or other[WORD] != "offer"]
    if len(others) == len(kept):
        raise NoRow("no such row")
    return (book.lines_by(kept, day), book.lines_by(others, day))


def supposed(book, day, turn, claim, when, amount):
    kept = book.rows_kept()
    if amount > worth_standing(kept, turn, claim):
        raise TooMuch("too much")
    more = kept + [offer_row(SUPPOSED, when, turn, claim, amount)]
    return (book.lines_by(more, day), book.lines_by(kept, day))


def least_offer(book, day, turn, claim, when):
    kept = book.rows_kept()
    worth_standing(kept, turn, claim)
    # Every offer from what was won on turns the claim for the same costs, and none below it does.
    won = won_on(kept, turn, claim, day)
    if won > 0 and some_part_differs(supposed(book, day, turn, claim, when, won)):
        return won
    return None


def worth_standing(rows, turn, number):
    claim = find_claim(claims_of(rounds_of(rows), turn), number)
    if claim is None:
        raise NoClaim("no such claim")
    return claim[WORTH]


def some_part_differs(both):
    return any([line[LINE_PARTS] != other[LINE_PARTS] for line, other in zip(both[0], both[1])])
