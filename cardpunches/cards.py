"""Cards of eighty columns: the code, fields, order by a field, and how cards and decks are told.

A card is kept as a list of eighty numbers, the holes of each column; a deck as a list of cards.
"""

COLUMNS = 80
MOST_HOLES = 4095
MOST_CARDS = 1000

# The code read backwards: rows 0 to 2 tell z, and rows 3 to 11 (here bits 0 to 8) tell v.
Z_OF_ROWS = {0: 0, 1: 1, 2: 2, 4: 3}
V_OF_ROWS = {
    0: 0, 1: 1, 2: 2, 4: 3, 8: 4, 16: 5, 32: 6, 64: 7, 128: 8, 256: 9,
    130: 10, 132: 11, 136: 12, 144: 13, 160: 14, 192: 15,
}


def figure_hole(figure):
    return 1 << (figure + 2)


def code_holes(number):
    """The holes of a number from 0 to 63 by the code."""
    z = number // 16
    v = number % 16
    holes = 0
    if z > 0:
        holes = 1 << (z - 1)
    if v > 9:
        return holes | figure_hole(8) | figure_hole(v - 8)
    if v > 0:
        return holes | figure_hole(v)
    return holes


def column_rank(holes):
    z = Z_OF_ROWS.get(holes & 7)
    v = V_OF_ROWS.get(holes >> 3)
    if z is None or v is None:
        return 64 + holes
    return 16 * z + v


def is_column(c):
    return 0 <= c and c < COLUMNS


def is_field(c, n):
    return c >= 0 and n >= 1 and c + n <= COLUMNS


def comes_before(card, c, other, e, n):
    """Whether card, by its field (c, n), comes before other, by its field (e, n)."""
    for k in range(n):
        # Other holes have another rank, so the first column that differs settles it.
        if card[c + k] != other[e + k]:
            return column_rank(card[c + k]) < column_rank(other[e + k])
    return False


def out_of_sequence(deck, c, n):
    """The least place whose card comes before the one before it; 0 if the deck is in sequence."""
    for place in range(1, len(deck)):
        if comes_before(deck[place], c, deck[place - 1], c, n):
            return place
    return 0


def blank_card():
    return [0] * COLUMNS


def read_card(numbers):
    """The card that the numbers tell; None if they are no card's."""
    if len(numbers) % 2 != 0:
        return None
    card = blank_card()
    last = -1
    for at in range(0, len(numbers), 2):
        column = numbers[at]
        holes = numbers[at + 1]
        if column <= last or not is_column(column) or holes < 1 or holes > MOST_HOLES:
            return None
        card[column] = holes
        last = column
    return card


def read_deck(numbers):
    """The deck that the numbers tell; None if they are no deck's."""
    deck = []
    at = 0
    while at < len(numbers):
        end = at + 1 + 2 * numbers[at]
        if numbers[at] < 0 or end > len(numbers) or len(deck) == MOST_CARDS:
            return None
        card = read_card(numbers[at + 1:end])
        if card is None:
            return None
        deck.append(card)
        at = end
    return deck


def tell_card(card):
    numbers = []
    for column, holes in enumerate(card):
        if holes > 0:
            numbers.extend([column, holes])
    return numbers


def tell_deck(deck):
    numbers = []
    for card in deck:
        told = tell_card(card)
        numbers.append(len(told) // 2)
        numbers.extend(told)
    return numbers
