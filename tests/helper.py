"""What the tests share: building calls, taking answers apart, and the document's words in plain form."""

from cardpunches.desk import answers

ORDER = list(range(13))


def row(numbers):
    return [len(numbers)] + list(numbers)


def signs(text):
    return list(text.encode("latin-1"))


def told_card(card):
    """card is a dict: column to holes."""
    numbers = []
    for column in sorted(card):
        numbers += [column, card[column]]
    return numbers


def told(cards):
    numbers = []
    for card in cards:
        numbers += [len(card)] + told_card(card)
    return numbers


def the_pass(c, looked, order, deck):
    return [1, c, looked] + row(order) + row(deck)


def follow(c, n, deck):
    return [2, c, n] + row(deck)


def collate(c, e, n, how, first, second):
    return [3, c, e, n, how] + row(first) + row(second)


def select(text, deck):
    return [4] + row(signs(text)) + row(deck)


def setcopy(text):
    return [5] + row(signs(text))


def copy(read, punched):
    return [6] + row(read) + row(punched)


def setwork(program, text=""):
    return [7] + row(program) + row(signs(text))


def work(card):
    return [8] + row(card)


def counters():
    return [9]


def step(op, when=0, hub=0, k=0, j=0, c=0, n=0, s=0, x=0):
    """A step's nine numbers."""
    return [op, when, hub, k, j, c, n, s, x]


def program(*steps):
    return [number for one in steps for number in one]


def ask(*calls):
    """The answer to each call, all on one object."""
    given = answers([number for call in calls for number in call])
    parted = []
    at = 0
    while at < len(given):
        parted.append(given[at + 1:at + 1 + given[at]])
        assert len(parted[-1]) == given[at]
        at += 1 + given[at]
    assert len(parted) == len(calls)
    return parted


def ask_one(call):
    return ask(call)[0]


def cards_of(numbers):
    """The cards of a told deck, as dicts."""
    cards = []
    at = 0
    while at < len(numbers):
        card = {}
        for k in range(numbers[at]):
            card[numbers[at + 1 + 2 * k]] = numbers[at + 2 + 2 * k]
        at += 1 + 2 * numbers[at]
        cards.append(card)
    return cards


def rows_punched(*rows):
    return sum(1 << r for r in rows)


def figure(d):
    return rows_punched(d + 2)


def amount_at(c, text):
    """A card with an amount from column c on: figures, blanks for columns without holes, - behind for row 1."""
    card = {c + place: figure(int(sign)) for place, sign in enumerate(text.rstrip("-")) if sign != " "}
    if text.endswith("-"):
        last = c + len(text) - 2
        card[last] = card.get(last, 0) | rows_punched(1)
    return card


def holes_by_code(n):
    """The code as the document words it, by rows."""
    z = n // 16
    v = n % 16
    rows = []
    if z != 0:
        rows.append(z - 1)
    if v != 0 and v <= 9:
        rows.append(v + 2)
    if v > 9:
        rows += [8 + 2, v - 8 + 2]
    return rows_punched(*rows)


def rank_by_code(holes):
    for n in range(64):
        if holes_by_code(n) == holes:
            return n
    return 64 + holes


def ranks(card, c, n):
    return [rank_by_code(card.get(column, 0)) for column in range(c, c + n)]


def goes_in_words(wires, card, machine, taker):
    """What goes into a hub that takes, by the document's tables, from the end backwards."""
    senders = [sender for sender, other in wires if other == taker]
    if not senders:
        return 0
    name, k, *m = senders[0]

    def into(hub):
        return goes_in_words(wires, card, machine, (hub, k))

    if name == "read":
        return card.get(k, 0)
    if name == "send":
        return holes_by_code(k)
    if name == "from":
        return machine[k]
    if name == "upper":
        return into("split") & rows_punched(0, 1)
    if name == "lower":
        return into("split") & rows_punched(*range(2, 12))
    if name == "hole":
        return rows_punched(m[0]) if into("look") & rows_punched(m[0]) else 0
    if name == "chosen":
        return into("other") if into("by") else into("plain")
    return into("one") | into("two")


def text_of(wires):
    lines = []
    for sender, taker in wires:
        lines.append(" ".join(map(str, sender)) + " > " + " ".join(map(str, taker)) + "\n")
    return "".join(lines)


def column_list(card):
    return [card.get(column, 0) for column in range(80)]


NO_CARDS = {
    "the holes are missing": [0],
    "the last holes are missing": [0, 1, 2],
    "no holes": [0, 0],
    "holes below 0": [0, -1],
    "holes 4096": [0, 4096],
    "column below 0": [-1, 1],
    "column 80": [80, 1],
    "columns that do not rise": [5, 1, 4, 1],
    "a column twice": [5, 1, 5, 2],
    "81 columns": [number for c in range(81) for number in (c, 1)],
    "a column of the greatest size": [10 ** 18, 1],
    "a column of the least size": [-10 ** 18, 1],
    "holes of the greatest size": [0, 10 ** 18],
    "holes of the least size": [0, -10 ** 18],
    "the longest row": [0, 1] * 8400,
}

NO_DECKS = {
    "a card's numbers are missing": [1],
    "a card's holes are missing": [1, 0],
    "a number too many": [1, 0, 1, 5],
    "fewer than no columns": [-1],
    "fewer than no columns behind a card": [0, -1, 0],
    "column below 0": [1, -1, 1],
    "column 80": [1, 80, 1],
    "no holes": [1, 0, 0],
    "holes below 0": [1, 0, -1],
    "holes 4096": [1, 0, 4096],
    "columns that do not rise": [2, 5, 1, 4, 1],
    "a column twice": [2, 5, 1, 5, 2],
    "81 columns": [81] + [number for c in range(81) for number in (c, 1)],
    "a number of the greatest size": [10 ** 18],
    "a number of the least size": [-10 ** 18],
    "a column of the greatest size": [1, 10 ** 18, 1],
    "holes of the greatest size": [1, 0, 10 ** 18],
    "a wrong card behind a right one": [1, 0, 1, 1, 0, 0],
    "1001 cards": [0] * 1001,
    "1001 cards with holes": [1, 3, 7] * 1001,
    "a wrong card behind 1000": [0] * 1000 + [-5],
}
