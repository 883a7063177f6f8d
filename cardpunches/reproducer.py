"""The reproducing punch."""

from cardpunches.cards import blank_card


class ReproducingPunch:
    """A reproducing punch as it is set up: its panel, and the card that was punched last."""

    def __init__(self, panel):
        self.panel = panel
        self.last_card = blank_card()
