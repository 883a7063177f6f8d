"""Amounts: how they stand in a field's columns, and how they are written there."""

from cardpunches.cards import figure_hole

# Row 1, which stands in the last column of an amount below 0.
BELOW_HOLE = 2
FIGURE_OF_HOLES = {4: 0, 8: 1, 16: 2, 32: 3, 64: 4, 128: 5, 256: 6, 512: 7, 1024: 8, 2048: 9}


def number_of_figures(columns):
    """The number that figures say behind columns without holes; None if the columns hold something else."""
    number = 0
    begun = False
    for holes in columns:
        figure = FIGURE_OF_HOLES.get(holes)
        if figure is not None:
            number = 10 * number + figure
            begun = True
        elif begun or holes > 0:
            return None
    return number if begun else None


def read_amount(columns):
    """The amount that a field's columns hold; None if they hold none."""
    last = columns[-1]
    below = last & BELOW_HOLE
    number = number_of_figures(columns[:-1] + [last - below])
    if number is None or below == 0:
        return number
    # There is no amount that is 0 and yet below 0.
    return -number if number > 0 else None


def figures_of(amount):
    return str(abs(amount))


def amount_fits(amount, n):
    return len(figures_of(amount)) <= n


def write_amount(amount, n):
    """The columns of a field of n columns, in which the amount fits, as it is written."""
    columns = [figure_hole(int(sign)) for sign in figures_of(amount).zfill(n)]
    if amount < 0:
        columns[n - 1] |= BELOW_HOLE
    return columns
