"""What the tests share: building calls, taking answers apart, and the document's words in plain form."""

from cardpunches.desk import answers

ORDER = list(range(13))


def row(numbers):
    return [len(numbers)] + list(numbers)


def signs(text):
    return list(text.encode("latin-1"))


def told_card(card):
    """card is a dict: column to holes."""
    numbers = []
    for column in sorted(card):
        numbers += [column, card[column]]
    return numbers


def told(cards):
    numbers = []
    for card in cards:
        numbers += [len(card)] + told_card(card)
    return numbers


def the_pass(c, looked, order, deck):
    return [1, c, looked] + row(order) + row(deck)


def follow(c, n, deck):
    return [2, c, n] + row(deck)


def collate(c, e, n, how, first, second):
    return [3, c, e, n, how] + row(first) + row(second)


def select(text, deck):
    return [4] + row(signs(text)) + row(deck)


def setcopy(text):
    return [5] + row(signs(text))


def ask(*calls):
    """The answer to each call, all on one object."""
    given = answers([number for call in calls for number in call])
    parted = []
    at = 0
    while at < len(given):
        parted.append(given[at + 1:at + 1 + given[at]])
        assert len(parted[-1]) == given[at]
        at += 1 + given[at]
    assert len(parted) == len(calls)
    return parted


def ask_one(call):
    return ask(call)[0]


def cards_of(numbers):
    """The cards of a told deck, as dicts."""
    cards = []
    at = 0
    while at < len(numbers):
        card = {}
        for k in range(numbers[at]):
            card[numbers[at + 1 + 2 * k]] = numbers[at + 2 + 2 * k]
        at += 1 + 2 * numbers[at]
        cards.append(card)
    return cards


def rows_punched(*rows):
    return sum(1 << r for r in rows)


def figure(d):
    return rows_punched(d + 2)


def holes_by_code(n):
    """The code as the document words it, by rows."""
    z = n // 16
    v = n % 16
    rows = []
    if z != 0:
        rows.append(z - 1)
    if v != 0 and v <= 9:
        rows.append(v + 2)
    if v > 9:
        rows += [8 + 2, v - 8 + 2]
    return rows_punched(*rows)


def rank_by_code(holes):
    for n in range(64):
        if holes_by_code(n) == holes:
            return n
    return 64 + holes


def ranks(card, c, n):
    return [rank_by_code(card.get(column, 0)) for column in range(c, c + n)]


NO_DECKS = {
    "a card's numbers are missing": [1],
    "a card's holes are missing": [1, 0],
    "a number too many": [1, 0, 1, 5],
    "fewer than no columns": [-1],
    "fewer than no columns behind a card": [0, -1, 0],
    "column below 0": [1, -1, 1],
    "column 80": [1, 80, 1],
    "no holes": [1, 0, 0],
    "holes below 0": [1, 0, -1],
    "holes 4096": [1, 0, 4096],
    "columns that do not rise": [2, 5, 1, 4, 1],
    "a column twice": [2, 5, 1, 5, 2],
    "81 columns": [81] + [number for c in range(81) for number in (c, 1)],
    "a number of the greatest size": [10 ** 18],
    "a number of the least size": [-10 ** 18],
    "a column of the greatest size": [1, 10 ** 18, 1],
    "holes of the greatest size": [1, 0, 10 ** 18],
    "a wrong card behind a right one": [1, 0, 1, 1, 0, 0],
    "1001 cards": [0] * 1001,
    "1001 cards with holes": [1, 3, 7] * 1001,
    "a wrong card behind 1000": [0] * 1000 + [-5],
}
