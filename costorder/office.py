"""The office: deeds and questions in words (points 31 to 33)."""

from costorder.debts import OFFICE
from costorder.errors import CostError
from costorder.offers import least_offer


def answers(book, texts):
    return [answer_of(book, text) for text in texts]


def answer_of(book, text):
    words = text.split(" ")
    try:
        return answer_words(book, words)
    except CostError as refusal:
        # Each refusal bears the document's own words for it.
        return "refused: " + str(refusal)


def answer_words(book, words):
    if words[0] == "step":
        return str(do_step(book, words))
    if words[0] == "rule":
        return str(do_rule(book, words))
    numbers = [int(word) for word in words[1:]]
    if words[0] in ("claim", "carry", "offer", "pay", "dun", "undo"):
        return str(do_numbers(book, words[0], numbers))
    return ask(book, words[0], numbers)


def do_step(book, words):
    return book.step(int(words[1]), int(words[2]), int(words[3]), words[4], int(words[5]), words[6])


def do_rule(book, words):
    return book.rule(int(words[1]), int(words[2]), [win_of(word) for word in words[4:]], words[3] == "back")


def win_of(word):
    halves = word.split("=")
    return (int(halves[0]), int(halves[1]))


def do_numbers(book, word, numbers):
    if word == "claim":
        return book.claim(numbers[0], numbers[1], numbers[2], numbers[3], numbers[4])
    if word == "carry":
        return book.carry(numbers[0], numbers[1])
    if word == "offer":
        return book.offer(numbers[0], numbers[1], numbers[2], numbers[3])
    if word == "pay":
        return book.pay(numbers[0], numbers[1], numbers[2], numbers[3])
    if word == "dun":
        return book.dun(numbers[0], numbers[1])
    return book.undo(numbers[0])


def ask(book, word, numbers):
    if word == "bill":
        return bill_text(book.bill(numbers[1], numbers[0]))
    if word == "then":
        return bill_text(book.bill(numbers[2], numbers[1], numbers[0]))
    if word == "owes":
        return owes_text(book.owes(numbers[0]))
    if word == "together":
        return together_text(book.together(numbers[1], numbers[0]))
    if word == "least":
        return least_text(least_offer(book, numbers[0], numbers[1], numbers[2], numbers[3]))
    return str(book.mark())


def bill_text(bill):
    words = [f"{row}:{part}:{reason}" for row, part, reason in bill[0]]
    for name, coins in zip(("borne", "interest", "paid", "due"), bill[1:]):
        words.append(f"{name} {coins}")
    return " ".join(words)


def owes_text(owed):
    if owed == []:
        return "nobody"
    words = []
    for payer, getter, coins in owed:
        words.append(side_text(payer) + ">" + side_text(getter) + f":{coins}")
    return " ".join(words)


def side_text(side):
    return "office" if side == OFFICE else str(side)


def together_text(both):
    return " ".join(["asked", str(both[0]), "between"] + [str(coins) for coins in both[1]])


def least_text(amount):
    return "none" if amount is None else str(amount)
