"""Programs of the calculating punch: how they are told, and which steps are as they should be."""

from cardpunches.cards import is_field

STEP_NUMBERS = 9
MOST_STEPS = 64
MOST_OP = 10
MOST_WHEN = 5
MOST_HUB = 255
MOST_COUNTER = 15
LONGEST_AMOUNT = 18
LEAST_X = -2147483648
MOST_X = 2147483647

# For each op which of a step's numbers it uses; for each that uses s how great that may be.
USES = ("kcn", "kj", "kj", "kj", "kjs", "kx", "kj", "ks", "ks", "kcn", "s")
MOST_S = {4: 15, 7: 15, 8: 15, 10: 64}


class Step:
    """A step of a program: its nine numbers."""

    def __init__(self, numbers):
        self.op = numbers[0]
        self.when = numbers[1]
        self.hub = numbers[2]
        self.k = numbers[3]
        self.j = numbers[4]
        self.c = numbers[5]
        self.n = numbers[6]
        self.s = numbers[7]
        self.x = numbers[8]


def asks_counter(step):
    return 1 <= step.when and step.when <= 3


def asks_panel(step):
    return 4 <= step.when and step.when <= 5


def number_fits(number, used, most):
    return number <= most if used else number == 0


def field_fits(step, used):
    if used:
        return is_field(step.c, step.n) and step.n <= LONGEST_AMOUNT
    return step.c == 0 and step.n == 0


def x_fits(step, used):
    if used:
        return LEAST_X <= step.x and step.x <= MOST_X
    return step.x == 0


def is_as_it_should_be(step):
    """Whether a step is, the first eight numbers of which are not below 0."""
    if step.op > MOST_OP or step.when > MOST_WHEN:
        return False
    uses = USES[step.op]
    return (
        number_fits(step.hub, asks_panel(step), MOST_HUB)
        and number_fits(step.k, "k" in uses, MOST_COUNTER)
        and number_fits(step.j, "j" in uses or asks_counter(step), MOST_COUNTER)
        and number_fits(step.s, "s" in uses, MOST_S.get(step.op, 0))
        and field_fits(step, "c" in uses)
        and x_fits(step, "x" in uses)
    )


def read_step(numbers):
    """The step that nine numbers tell; None if they tell none."""
    step = Step(numbers)
    # Of the nine only the last, x, may be below 0.
    if min(numbers[:-1]) < 0 or not is_as_it_should_be(step):
        return None
    return step


def read_program(numbers):
    """The steps that the numbers tell; None if they are no program's."""
    if len(numbers) % STEP_NUMBERS != 0 or len(numbers) > STEP_NUMBERS * MOST_STEPS:
        return None
    steps = []
    for at in range(0, len(numbers), STEP_NUMBERS):
        step = read_step(numbers[at:at + STEP_NUMBERS])
        if step is None:
            return None
        steps.append(step)
    return steps
