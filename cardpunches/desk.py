"""The desk: takes calls one behind another and answers them."""

from cardpunches.calculator import CalculatingPunch
from cardpunches.calculator import begin_card
from cardpunches.calculator import keep_counters
from cardpunches.calculator import run_steps
from cardpunches.cards import is_field
from cardpunches.cards import out_of_sequence
from cardpunches.cards import read_card
from cardpunches.cards import read_deck
from cardpunches.cards import tell_card
from cardpunches.cards import tell_deck
from cardpunches.collator import collate
from cardpunches.collator import is_collation
from cardpunches.panels import panel_refusal
from cardpunches.panels import read_panel
from cardpunches.programs import read_program
from cardpunches.reproducer import ReproducingPunch
from cardpunches.reproducer import place_that_differs
from cardpunches.reproducer import punch_card
from cardpunches.reproducer import run_pair
from cardpunches.reproducer import stops_behind
from cardpunches.selector import select_cards
from cardpunches.sorter import drop_cards
from cardpunches.sorter import is_pass
from cardpunches.sorter import stack

THE_PASS = 1
FOLLOW = 2
COLLATE = 3
SELECT = 4
SETCOPY = 5
COPY = 6
SETWORK = 7
WORK = 8
COUNTERS = 9

NO_PROGRAM = -2
WRONG_NUMBERS = -3
NOT_SET_UP = -3
FIRST_OUT_OF_SEQUENCE = -5
CARDS_DIFFER = -5
WRONG_STEP = -5
SECOND_OUT_OF_SEQUENCE = -6
NO_DECK = -8
NO_CARD = -8


class UnknownCall(ValueError):
    """A call whose number is none of those above."""


class CallReader:
    """The list of calls, and how far it has been read."""

    def __init__(self, calls):
        self.calls = calls
        self.place = 0

    def at_end(self):
        return self.place == len(self.calls)

    def next_number(self):
        self.place += 1
        return self.calls[self.place - 1]

    def next_row(self):
        begin = self.place + 1
        self.place = begin + self.calls[self.place]
        return self.calls[begin:self.place]


class Desk:
    """The object that calls are made on: the punch that is set up, None at first."""

    def __init__(self):
        self.punch = None


def tell_pockets(pockets, order):
    """An answer that tells how many cards each pocket has, then the cards, stacked by the order."""
    return [0] + [len(pocket) for pocket in pockets] + tell_deck(stack(pockets, order))


def answer_the_pass(reader):
    c = reader.next_number()
    looked = reader.next_number()
    order = reader.next_row()
    deck = read_deck(reader.next_row())
    if deck is None:
        return [NO_DECK]
    if not is_pass(c, looked, order):
        return [WRONG_NUMBERS]
    pockets = drop_cards(deck, c, looked)
    return tell_pockets(pockets, order)


def answer_follow(reader):
    c = reader.next_number()
    n = reader.next_number()
    deck = read_deck(reader.next_row())
    if deck is None:
        return [NO_DECK]
    if not is_field(c, n):
        return [WRONG_NUMBERS]
    return [out_of_sequence(deck, c, n)]


def answer_collate(reader):
    c = reader.next_number()
    e = reader.next_number()
    n = reader.next_number()
    how = reader.next_number()
    first = read_deck(reader.next_row())
    second = read_deck(reader.next_row())
    if first is None or second is None:
        return [NO_DECK]
    if not is_collation(c, e, n, how):
        return [WRONG_NUMBERS]
    place = out_of_sequence(first, c, n)
    if place > 0:
        return [FIRST_OUT_OF_SEQUENCE, place]
    place = out_of_sequence(second, e, n)
    if place > 0:
        return [SECOND_OUT_OF_SEQUENCE, place]
    pockets = collate(first, second, c, e, n, how)
    return tell_pockets(pockets, [0, 1, 2, 3])


def answer_select(reader):
    text = reader.next_row()
    deck = read_deck(reader.next_row())
    refusal = panel_refusal(text)
    if len(refusal) > 0:
        return refusal
    if deck is None:
        return [NO_DECK]
    pockets = select_cards(read_panel(text), deck)
    return tell_pockets(pockets, [0, 1])


def answer_setcopy(reader, desk):
    text = reader.next_row()
    refusal = panel_refusal(text)
    if len(refusal) > 0:
        return refusal
    desk.punch = ReproducingPunch(read_panel(text))
    return [0]


def answer_copy(reader, desk):
    source = read_card(reader.next_row())
    card = read_card(reader.next_row())
    if not isinstance(desk.punch, ReproducingPunch):
        return [NOT_SET_UP]
    if source is None or card is None:
        return [NO_CARD]
    goes = run_pair(desk.punch, source, card)
    place = place_that_differs(goes)
    if place is not None:
        return [CARDS_DIFFER, place]
    punched = punch_card(desk.punch, card, goes)
    return [0, 1 if stops_behind(goes) else 0] + tell_card(punched)


def answer_setwork(reader, desk):
    steps = read_program(reader.next_row())
    text = reader.next_row()
    if steps is None:
        return [NO_PROGRAM]
    refusal = panel_refusal(text)
    if len(refusal) > 0:
        return refusal
    desk.punch = CalculatingPunch(steps, read_panel(text))
    return [0]


def answer_work(reader, desk):
    card = read_card(reader.next_row())
    if not isinstance(desk.punch, CalculatingPunch):
        return [NOT_SET_UP]
    if card is None:
        return [NO_CARD]
    run = begin_card(desk.punch, card)
    wrong = run_steps(desk.punch.steps, run)
    if len(wrong) > 0:
        return [WRONG_STEP] + wrong
    keep_counters(desk.punch, run)
    return [0] + tell_card(run.card)


def answer_counters(desk):
    if not isinstance(desk.punch, CalculatingPunch):
        return [NOT_SET_UP]
    return [0] + desk.punch.kept


def answer_punch_call(number, reader, desk):
    if number == SETCOPY:
        return answer_setcopy(reader, desk)
    if number == COPY:
        return answer_copy(reader, desk)
    if number == SETWORK:
        return answer_setwork(reader, desk)
    if number == WORK:
        return answer_work(reader, desk)
    if number == COUNTERS:
        return answer_counters(desk)
    raise UnknownCall(f"no call has the number {number}")


def answer_call(reader, desk):
    number = reader.next_number()
    if number == THE_PASS:
        return answer_the_pass(reader)
    if number == FOLLOW:
        return answer_follow(reader)
    if number == COLLATE:
        return answer_collate(reader)
    if number == SELECT:
        return answer_select(reader)
    return answer_punch_call(number, reader, desk)


def answers(calls):
    """The answers to a list of calls on a new object, each with how many numbers it has before it."""
    reader = CallReader(calls)
    desk = Desk()
    told = []
    while not reader.at_end():
        answer = answer_call(reader, desk)
        told.append(len(answer))
        told.extend(answer)
    return told
