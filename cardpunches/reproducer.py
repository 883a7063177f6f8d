"""The reproducing punch: reads a card and punches another as its panel says."""

from cardpunches.cards import blank_card
from cardpunches.panels import machine_gets
from cardpunches.panels import machine_sending
from cardpunches.panels import run_panel

STOP = 80
FIRST_COMPARED = 96
FIRST_COMPARED_WITH = 176


class ReproducingPunch:
    """A reproducing punch as it is set up: its panel, and the card that was punched last."""

    def __init__(self, panel):
        self.panel = panel
        self.last_card = blank_card()


def run_pair(punch, source, card):
    """What goes into the panel's hubs for a card that is read, source, and one to be punched."""
    return run_panel(punch.panel, source, machine_sending(punch.last_card + card))


def place_that_differs(goes):
    """The least place where they differ; None if they differ nowhere."""
    for k in range(FIRST_COMPARED_WITH - FIRST_COMPARED):
        if machine_gets(goes, FIRST_COMPARED + k) != machine_gets(goes, FIRST_COMPARED_WITH + k):
            return k
    return None


def stops_behind(goes):
    return machine_gets(goes, STOP) > 0


def punch_card(punch, card, goes):
    """The card as it is punched; it is the one that was punched last from now on."""
    punched = [card[k] | machine_gets(goes, k) for k in range(len(card))]
    punch.last_card = punched
    return punched
