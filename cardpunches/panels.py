"""Panels: which texts are taken, and what goes into the hubs.

A panel that is taken is kept as a list of its wires, in an order in which it can be run.
"""

from cardpunches.cards import code_holes
from cardpunches.paneltext import text_fault
from cardpunches.paneltext import wires_of

LONGEST_TEXT = 16384
UPPER_ROWS = 3
LOWER_ROWS = 4092
PLACES = 256

# The box that a hub belongs to; hubs that are not listed belong to none.
BOX_THAT_SENDS = {"upper": "split", "lower": "split", "hole": "look", "chosen": "chosen", "both": "both"}
BOX_THAT_TAKES = {
    "split": "split", "look": "look", "by": "chosen", "plain": "chosen", "other": "chosen",
    "one": "both", "two": "both",
}


def sending_box(wire):
    sender = wire[0]
    if sender[0] not in BOX_THAT_SENDS:
        return None
    return (BOX_THAT_SENDS[sender[0]], sender[1])


def taking_box(wire):
    taker = wire[1]
    if taker[0] not in BOX_THAT_TAKES:
        return None
    return (BOX_THAT_TAKES[taker[0]], taker[1])


def joins_boxes(wire):
    return sending_box(wire) is not None and taking_box(wire) is not None


def leads_to(followers, start, goal):
    """Whether the goal is the start or a box that the start sends to, in however many steps."""
    waiting = [start]
    met = {start: True}
    while len(waiting) > 0:
        box = waiting.pop()
        if box == goal:
            return True
        for follower in followers.get(box, []):
            if follower not in met:
                met[follower] = True
                waiting.append(follower)
    return False


def wire_fault(wires):
    """The fault of kind 3 or 4 as a list of three numbers; an empty list if the wires are sound."""
    taken = {}
    followers = {}
    for place, wire in enumerate(wires):
        if wire[1] in taken:
            return [3, place, 0]
        taken[wire[1]] = True
        if joins_boxes(wire):
            if leads_to(followers, taking_box(wire), sending_box(wire)):
                return [4, place, 0]
            followers.setdefault(sending_box(wire), []).append(taking_box(wire))
    return []


def panel_refusal(text):
    """The refusal of a panel's text with what is told of it; an empty list if the panel is taken."""
    if len(text) > LONGEST_TEXT:
        return [-1]
    fault = text_fault(text)
    if len(fault) == 0:
        fault = wire_fault(wires_of(text))
    if len(fault) > 0:
        return [-6] + fault
    return []


def count_into_boxes(wires):
    counts = {}
    for wire in wires:
        box = taking_box(wire)
        counts[box] = counts.get(box, 0) + 1
    return counts


def in_running_order(wires):
    """The wires of a sound panel, each behind all those that lead into the box that sends to it."""
    missing = count_into_boxes(wires)
    ordered = []
    left = wires
    while len(left) > 0:
        later = []
        for wire in left:
            box = sending_box(wire)
            if box is not None and missing.get(box, 0) > 0:
                later.append(wire)
            else:
                ordered.append(wire)
                missing[taking_box(wire)] -= 1
        left = later
    return ordered


def read_panel(text):
    """The panel of a text that is not refused."""
    return in_running_order(wires_of(text))


def machine_sending(holes):
    """What a machine sends that sends these holes, from `from 0` on, and nothing behind them."""
    return holes + [0] * (PLACES - len(holes))


def silent_machine():
    return machine_sending([])


def machine_gets(goes, place):
    """What the machine gets at `to` and the place, where goes has what goes into the hubs that take."""
    return goes.get(("to", place), 0)


def sent_by_box(sender, goes):
    """What a box's hub sends, where goes has what goes into the hubs that take."""
    name = sender[0]
    k = sender[1]
    if name == "upper":
        return goes.get(("split", k), 0) & UPPER_ROWS
    if name == "lower":
        return goes.get(("split", k), 0) & LOWER_ROWS
    if name == "hole":
        return goes.get(("look", k), 0) & (1 << sender[2])
    if name == "both":
        return goes.get(("one", k), 0) | goes.get(("two", k), 0)
    if goes.get(("by", k), 0) > 0:
        return goes.get(("other", k), 0)
    return goes.get(("plain", k), 0)


def sent(sender, card, machine, goes):
    name = sender[0]
    if name == "read":
        return card[sender[1]]
    if name == "send":
        return code_holes(sender[1])
    if name == "from":
        return machine[sender[1]]
    return sent_by_box(sender, goes)


def run_panel(panel, card, machine):
    """What goes into each hub that has a wire; machine is what is sent at `from 0` to `from 255`."""
    goes = {}
    for wire in panel:
        goes[wire[1]] = sent(wire[0], card, machine, goes)
    return goes
