"""The sorter: a pass drops cards into thirteen pockets by one column."""

from cardpunches.cards import is_column

POCKETS = 13
REJECT = 12


def is_order(order):
    return len(order) == POCKETS and sorted(order) == list(range(POCKETS))


def is_pass(c, looked, order):
    return is_column(c) and looked >= 0 and is_order(order)


def pocket_of(holes, looked):
    # Holes have no bit from 12 on, so such bits of looked are nothing.
    seen = holes & looked
    if seen == 0:
        return REJECT
    return seen.bit_length() - 1


def drop_cards(deck, c, looked):
    """The thirteen pockets after a pass, each with its cards in the order in which they came."""
    pockets = [[] for pocket in range(POCKETS)]
    for card in deck:
        pockets[pocket_of(card[c], looked)].append(card)
    return pockets


def stack(pockets, order):
    cards = []
    for pocket in order:
        cards.extend(pockets[pocket])
    return cards
