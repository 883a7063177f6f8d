"""The selector: a panel says into which of two pockets a card falls."""

from cardpunches.panels import machine_gets
from cardpunches.panels import run_panel
from cardpunches.panels import silent_machine


def is_selected(panel, card):
    goes = run_panel(panel, card, silent_machine())
    return machine_gets(goes, 0) > 0


def select_cards(panel, deck):
    """Pocket 0, the cards that are not selected, and pocket 1, those that are."""
    pockets = [[], []]
    for card in deck:
        if is_selected(panel, card):
            pockets[1].append(card)
        else:
            pockets[0].append(card)
    return pockets
