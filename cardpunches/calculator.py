"""The calculating punch: reads amounts into counters, runs a program over them, punches what comes out."""

from cardpunches.amounts import amount_fits
from cardpunches.amounts import read_amount
from cardpunches.amounts import write_amount
from cardpunches.panels import machine_gets
from cardpunches.panels import run_panel
from cardpunches.panels import silent_machine

# Counters 0 to 7 begin anew with each card, the eight from here on stay.
FIRST_KEPT = 8
KEPT = 8
COUNTER_LIMIT = 10000000000000000

READ = 0
MORE = 1
LESS = 2
TIMES = 3
DIVIDE = 4
SET = 5
MOVE = 6
SHORTEN = 7
LENGTHEN = 8
PUNCH = 9
SKIP = 10

IF_BELOW = 1
IF_NOUGHT = 2
IF_ABOVE = 3
IF_SOMETHING = 4
IF_NOTHING = 5

NO_AMOUNT = 1
TOO_GREAT = 2
BY_NOUGHT = 3
TOO_LONG = 4


class CalculatingPunch:
    """A calculating punch as it is set up: its steps, its panel, and the counters that stay from card to card."""

    def __init__(self, steps, panel):
        self.steps = steps
        self.panel = panel
        self.kept = [0] * KEPT


class CardRun:
    """One card in the punch: the card and all counters as they are by now, and what goes into the panel's hubs."""

    def __init__(self, card, counters, goes):
        self.card = card
        self.counters = counters
        self.goes = goes


def power_of_ten(exponent):
    power = 1
    for turn in range(exponent):
        power *= 10
    return power


def quotient_of(number, by):
    """The quotient, rounded towards 0."""
    quotient = abs(number) // abs(by)
    if (number < 0) != (by < 0):
        return -quotient
    return quotient


def rounded_quotient(number, by):
    """The whole number nearest to number by by, which is above 0; of two as near the one further from 0."""
    quotient = (2 * abs(number) + by) // (2 * by)
    return -quotient if number < 0 else quotient


def put(run, k, number):
    """Brings a number into counter k; answers what goes wrong, 0 if nothing does."""
    if abs(number) >= COUNTER_LIMIT:
        return TOO_GREAT
    run.counters[k] = number
    return 0


def read_field(step, run):
    amount = read_amount(run.card[step.c:step.c + step.n])
    if amount is None:
        return NO_AMOUNT
    return put(run, step.k, amount)


def divide(step, run):
    number = run.counters[step.k]
    by = run.counters[step.j]
    if by == 0:
        return BY_NOUGHT
    quotient = quotient_of(number, by)
    run.counters[step.k] = quotient
    # Behind the quotient, as the rest stands where both go into one counter.
    run.counters[step.s] = number - quotient * by
    return 0


def punch_field(step, run):
    amount = run.counters[step.k]
    if not amount_fits(amount, step.n):
        return TOO_LONG
    for place, holes in enumerate(write_amount(amount, step.n)):
        run.card[step.c + place] = holes
    return 0


def reckoned(step, counters):
    """What counter k becomes by an op that changes this counter alone and reads no field."""
    number = counters[step.k]
    other = counters[step.j]
    if step.op == MORE:
        return number + other
    if step.op == LESS:
        return number - other
    if step.op == TIMES:
        return number * other
    if step.op == SET:
        return step.x
    if step.op == MOVE:
        return other
    if step.op == SHORTEN:
        return rounded_quotient(number, power_of_ten(step.s))
    return number * power_of_ten(step.s)


def do_step(step, run):
    """Does a step of any op but SKIP; answers what goes wrong, 0 if nothing does."""
    if step.op == READ:
        return read_field(step, run)
    if step.op == DIVIDE:
        return divide(step, run)
    if step.op == PUNCH:
        return punch_field(step, run)
    return put(run, step.k, reckoned(step, run.counters))


def is_done(step, run):
    counter = run.counters[step.j]
    holes = machine_gets(run.goes, step.hub)
    if step.when == IF_BELOW:
        return counter < 0
    if step.when == IF_NOUGHT:
        return counter == 0
    if step.when == IF_ABOVE:
        return counter > 0
    if step.when == IF_SOMETHING:
        return holes > 0
    if step.when == IF_NOTHING:
        return holes == 0
    return True


def begin_card(punch, card):
    # The panel is run once, here: it goes by the card as it was when it began.
    goes = run_panel(punch.panel, card, silent_machine())
    return CardRun(list(card), [0] * FIRST_KEPT + punch.kept, goes)


def run_steps(steps, run):
    """What goes wrong and the step's number, as a list; an empty list if nothing goes wrong."""
    place = 0
    while place < len(steps):
        step = steps[place]
        skipped = 0
        if is_done(step, run):
            if step.op == SKIP:
                skipped = step.s
            else:
                wrong = do_step(step, run)
                if wrong > 0:
                    return [wrong, place]
        place += 1 + skipped
    return []


def keep_counters(punch, run):
    punch.kept = run.counters[FIRST_KEPT:]
