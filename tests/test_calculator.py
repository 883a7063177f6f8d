"""work and counters: the calculating punch."""

import decimal
import fractions
import random
import re
import unittest

from tests.helper import NO_CARDS, amount_at, ask, ask_one, copy, counters, figure, program, rows_punched, setcopy
from tests.helper import setwork, step, told_card, work

LIMIT = 10 ** 16
MOST = LIMIT - 1


def quotient_in_words(number, by):
    return int(fractions.Fraction(number, by))


def rounded_in_words(number, s):
    with decimal.localcontext() as context:
        context.prec = 60
        return int(decimal.Decimal(number).scaleb(-s).quantize(decimal.Decimal(1), decimal.ROUND_HALF_UP))


def card_with(*amounts):
    """A card with each amount in a field of 18 columns, from column 0 on."""
    card = {}
    for place, amount in enumerate(amounts):
        card.update(amount_at(18 * place, str(abs(amount)).rjust(18) + "-" * (amount < 0)))
    return card


def load(*places):
    """Steps that bring the amounts of card_with into these counters."""
    return [step(0, k=k, c=18 * place, n=18) for place, k in enumerate(places)]


class OpTest(unittest.TestCase):
    def run_op(self, amounts, *steps):
        """The counters 8 to 15 behind steps that begin with the amounts in counters 8, 9 ..; or what is wrong."""
        places = range(8, 8 + len(amounts))
        given = ask(setwork(program(*load(*places), *steps)), work(told_card(card_with(*amounts))), counters())
        if given[1][0] == -5:
            self.assertEqual(given[1][2], len(amounts) + len(steps) - 1)
            self.assertEqual(given[2], [0] * 9)
            return f"wrong {given[1][1]}"
        self.assertEqual(given[1], [0] + told_card(card_with(*amounts)))
        return given[2][1:1 + max(3, len(amounts))]

    def test_more_and_less(self):
        self.assertEqual(self.run_op((7, -9), step(1, k=8, j=9)), [-2, -9, 0])
        self.assertEqual(self.run_op((7, -9), step(2, k=8, j=9)), [16, -9, 0])
        self.assertEqual(self.run_op((7, 9), step(2, k=8, j=9)), [-2, 9, 0])
        self.assertEqual(self.run_op((7,), step(1, k=8, j=8)), [14, 0, 0])
        self.assertEqual(self.run_op((7,), step(2, k=8, j=8)), [0, 0, 0])

    def test_more_and_less_at_the_limit(self):
        self.assertEqual(self.run_op((MOST - 1, 1), step(1, k=8, j=9))[0], MOST)
        self.assertEqual(self.run_op((MOST, 1), step(1, k=8, j=9)), "wrong 2")
        self.assertEqual(self.run_op((MOST, -1), step(1, k=8, j=9))[0], MOST - 1)
        self.assertEqual(self.run_op((-MOST + 1, -1), step(1, k=8, j=9))[0], -MOST)
        self.assertEqual(self.run_op((-MOST, -1), step(1, k=8, j=9)), "wrong 2")
        self.assertEqual(self.run_op((-MOST + 1, 1), step(2, k=8, j=9))[0], -MOST)
        self.assertEqual(self.run_op((-MOST, 1), step(2, k=8, j=9)), "wrong 2")
        self.assertEqual(self.run_op((MOST - 1, -1), step(2, k=8, j=9))[0], MOST)
        self.assertEqual(self.run_op((MOST, -1), step(2, k=8, j=9)), "wrong 2")
        self.assertEqual(self.run_op((MOST, MOST), step(1, k=8, j=9)), "wrong 2")

    def test_times(self):
        self.assertEqual(self.run_op((7, -9), step(3, k=8, j=9)), [-63, -9, 0])
        self.assertEqual(self.run_op((-7, -9), step(3, k=8, j=9)), [63, -9, 0])
        self.assertEqual(self.run_op((-12,), step(3, k=8, j=8)), [144, 0, 0])
        self.assertEqual(self.run_op((MOST, 0), step(3, k=8, j=9)), [0, 0, 0])

    def test_times_at_the_limit(self):
        # 100000001 times 99999999 is 10^16 - 1.
        self.assertEqual(self.run_op((100000001, 99999999), step(3, k=8, j=9))[0], MOST)
        self.assertEqual(self.run_op((-100000001, 99999999), step(3, k=8, j=9))[0], -MOST)
        self.assertEqual(self.run_op((10 ** 8, 10 ** 8), step(3, k=8, j=9)), "wrong 2")
        self.assertEqual(self.run_op((-10 ** 8, 10 ** 8), step(3, k=8, j=9)), "wrong 2")
        self.assertEqual(self.run_op((MOST, MOST), step(3, k=8, j=9)), "wrong 2")

    def test_quotients_and_rests_of_each_pair_of_signs(self):
        self.assertEqual(self.run_op((17, 5), step(4, k=8, j=9, s=10)), [3, 5, 2])
        self.assertEqual(self.run_op((-17, 5), step(4, k=8, j=9, s=10)), [-3, 5, -2])
        self.assertEqual(self.run_op((17, -5), step(4, k=8, j=9, s=10)), [-3, -5, 2])
        self.assertEqual(self.run_op((-17, -5), step(4, k=8, j=9, s=10)), [3, -5, -2])
        for number in (20, -20):
            for by in (5, -5):
                expected = [quotient_in_words(number, by), by, 0]
                self.assertEqual(self.run_op((number, by), step(4, k=8, j=9, s=10)), expected)
        for number in (3, -3):
            for by in (5, -5):
                self.assertEqual(self.run_op((number, by), step(4, k=8, j=9, s=10)), [0, by, number])
        for number in (1, -1):
            for by in (1, -1):
                self.assertEqual(self.run_op((number, by), step(4, k=8, j=9, s=10)), [number * by, by, 0])
            for by in (2, -2):
                self.assertEqual(self.run_op((number, by), step(4, k=8, j=9, s=10)), [0, by, number])
        self.assertEqual(self.run_op((0, -5), step(4, k=8, j=9, s=10)), [0, -5, 0])

    def test_quotients_and_rests_of_great_numbers(self):
        for number in (MOST, -MOST, 9007199254740993, -9007199254740993):
            for by in (1, -1, 7, -7, MOST, -MOST, 3333333333333333, 10 ** 15, 2 * 10 ** 15 + 1):
                quotient = quotient_in_words(number, by)
                expected = [quotient, by, number - quotient * by]
                self.assertEqual(self.run_op((number, by), step(4, k=8, j=9, s=10)), expected)

    def test_quotients_into_the_same_counters(self):
        self.assertEqual(self.run_op((-17, 5), step(4, k=8, j=9, s=8)), [-2, 5, 0])
        self.assertEqual(self.run_op((-17, 5), step(4, k=8, j=9, s=9)), [-3, -2, 0])
        self.assertEqual(self.run_op((-17,), step(4, k=8, j=8, s=10)), [1, 0, 0])
        self.assertEqual(self.run_op((-17,), step(4, k=8, j=8, s=8)), [0, 0, 0])
        self.assertEqual(self.run_op((17, 0, 99), step(4, k=8, j=10, s=10)), [0, 0, 17])

    def test_by_nought(self):
        self.assertEqual(self.run_op((17, 0), step(4, k=8, j=9, s=10)), "wrong 3")
        self.assertEqual(self.run_op((0, 0), step(4, k=8, j=9, s=8)), "wrong 3")
        self.assertEqual(self.run_op((0,), step(4, k=8, j=8, s=8)), "wrong 3")

    def test_set_and_move(self):
        for x in (0, 1, -1, 2 ** 31 - 1, -2 ** 31):
            self.assertEqual(self.run_op((5, 6), step(5, k=8, x=x)), [x, 6, 0])
        self.assertEqual(self.run_op((5, -6), step(6, k=8, j=9)), [-6, -6, 0])
        self.assertEqual(self.run_op((5, MOST), step(6, k=8, j=9)), [MOST, MOST, 0])
        self.assertEqual(self.run_op((5, 6), step(6, k=8, j=8)), [5, 6, 0])

    def test_shortened_with_halves_either_side_of_0(self):
        told = {0: 0, 4: 0, 5: 1, 6: 1, 14: 1, 15: 2, 16: 2, 24: 2, 25: 3, 26: 3, 95: 10, 94: 9, 99: 10, 10: 1}
        for number, rounded in told.items():
            self.assertEqual(self.run_op((number, 6), step(7, k=8, s=1)), [rounded, 6, 0])
            self.assertEqual(self.run_op((-number, 6), step(7, k=8, s=1)), [-rounded, 6, 0])

    def test_shortened_by_each_power(self):
        for s in range(16):
            half = 10 ** s // 2
            for number in (MOST, half, half - 1, half + 1, 10 ** s + half, 10 ** s + half - 1, 9007199254740993):
                for signed in (number, -number):
                    if abs(signed) < LIMIT:
                        expected = rounded_in_words(signed, s)
                        self.assertEqual(self.run_op((signed,), step(7, k=8, s=s))[0], expected, (signed, s))
        self.assertEqual(self.run_op((MOST,), step(7, k=8, s=0))[0], MOST)
        self.assertEqual(self.run_op((MOST,), step(7, k=8, s=1))[0], 10 ** 15)
        self.assertEqual(self.run_op((499999999999999,), step(7, k=8, s=15))[0], 0)
        self.assertEqual(self.run_op((-500000000000000,), step(7, k=8, s=15))[0], -1)

    def test_lengthened(self):
        self.assertEqual(self.run_op((-12, 6), step(8, k=8, s=3)), [-12000, 6, 0])
        self.assertEqual(self.run_op((0, 6), step(8, k=8, s=15)), [0, 6, 0])
        for number in (MOST, -MOST):
            self.assertEqual(self.run_op((number,), step(8, k=8, s=0))[0], number)
            self.assertEqual(self.run_op((number,), step(8, k=8, s=1)), "wrong 2")

    def test_lengthened_at_the_limit(self):
        for s in range(1, 16):
            most = 10 ** (16 - s) - 1
            for sign in (1, -1):
                self.assertEqual(self.run_op((sign * most,), step(8, k=8, s=s))[0], sign * most * 10 ** s)
                self.assertEqual(self.run_op((sign * (most + 1),), step(8, k=8, s=s)), "wrong 2")

    def test_a_counter_is_never_cut(self):
        self.assertEqual(self.run_op((MOST, 1), step(2, k=8, j=9), step(1, k=8, j=9))[0], MOST)


class WhenTest(unittest.TestCase):
    """Each op with each when: done it does what it does, not done it does nothing."""

    text = "read 79 > to 255\nread 78 > to 0\n"
    # In counter 8 is 7; what done does to counters 8 and 10 and to column 40, by what is in counter 9.
    does = {
        0: lambda j: {"8": 42},
        1: lambda j: {"8": 7 + j},
        2: lambda j: {"8": 7 - j},
        3: lambda j: {"8": 7 * j},
        4: lambda j: {"8": quotient_in_words(7, j), "10": 7 - quotient_in_words(7, j) * j} if j else {"wrong": 3},
        5: lambda j: {"8": -99},
        6: lambda j: {"8": j},
        7: lambda j: {"8": 1},
        8: lambda j: {"8": 70},
        9: lambda j: {"card": figure(7)},
        10: lambda j: {"skipped": True},
    }
    fields = {0: {"k": 8, "c": 0, "n": 2}, 4: {"k": 8, "j": 9, "s": 10}, 5: {"k": 8, "x": -99}, 7: {"k": 8, "s": 1},
              8: {"k": 8, "s": 1}, 9: {"k": 8, "c": 40, "n": 1}, 10: {"s": 1}}

    def check(self, op, when, hub, j, extra, done):
        numbers = dict(self.fields.get(op, {"k": 8, "j": 9}))
        if when in (1, 2, 3):
            numbers["j"] = 9
        steps = program(step(5, k=8, x=7), step(5, k=9, x=j), step(op, when, hub, **numbers), step(5, k=15, x=1))
        card = {**amount_at(0, "42"), **extra}
        given = ask(setwork(steps, self.text), work(told_card(card)), counters())[1:]
        does = self.does[op](j) if done else {}
        if "wrong" in does:
            expected = [[-5, does["wrong"], 2], [0] * 9]
        else:
            out = {**card, 40: does["card"]} if "card" in does else card
            last = 0 if "skipped" in does else 1
            expected = [[0] + told_card(out), [0, does.get("8", 7), j, does.get("10", 0), 0, 0, 0, 0, last]]
        self.assertEqual(given, expected, (op, when, hub, j, extra))

    def test_always(self):
        for op in range(11):
            for j in (-3, 0, 3):
                for extra in ({}, {78: 1, 79: 1}):
                    self.check(op, 0, 0, j, extra, True)

    def test_by_a_counter(self):
        for op in range(11):
            for j in (-2 ** 31, -3, -1, 0, 1, 3, 2 ** 31 - 1):
                for extra in ({}, {78: 1, 79: 1}):
                    self.check(op, 1, 0, j, extra, j < 0)
                    self.check(op, 2, 0, j, extra, j == 0)
                    self.check(op, 3, 0, j, extra, j > 0)

    def test_by_the_panel(self):
        for op in range(11):
            for j in (-3, 0, 3):
                for hub, column in ((0, 78), (255, 79)):
                    for extra in ({}, {78: 1}, {79: 2048}, {78: 4, 79: 8}):
                        self.check(op, 4, hub, j, extra, column in extra)
                        self.check(op, 5, hub, j, extra, column not in extra)

    def test_by_a_hub_without_a_wire(self):
        for op in range(11):
            self.check(op, 4, 77, 3, {77: 4095}, False)
            self.check(op, 5, 77, 3, {77: 4095}, True)

    def test_each_hub(self):
        for hub in range(256):
            steps = program(step(5, 4, hub, k=8, x=1), step(5, 5, hub, k=9, x=1))
            given = ask(setwork(steps, f"read 5 > to {hub}\n"), work([]), counters(), work([5, 1]), counters())
            self.assertEqual(given[2], [0, 0, 1, 0, 0, 0, 0, 0, 0])
            self.assertEqual(given[4], [0, 1, 1, 0, 0, 0, 0, 0, 0])

    def test_each_counter(self):
        for j in range(16):
            steps = program(step(5, k=j, x=-1), step(9, 1, k=j, j=j, c=0, n=1), step(9, 2, k=j, j=j, c=1, n=1),
                            step(9, 3, k=j, j=j, c=2, n=1), step(9, 2, k=j, j=(j + 1) % 16, c=3, n=1))
            self.assertEqual(ask(setwork(steps), work([]))[1], [0] + told_card({0: figure(1) | 2, 3: figure(1) | 2}))

    def test_the_panel_goes_by_the_card_as_it_was_when_it_began(self):
        steps = program(step(9, k=0, c=5, n=1), step(5, 4, 3, k=8, x=1), step(5, 5, 3, k=9, x=1))
        text = "read 5 > look 0\nhole 0 2 > to 3\n"
        given = ask(setwork(steps, text), work([]), counters(), work([5, 2048]), counters(), work([5, 4]), counters())
        self.assertEqual(given[1:3], [[0, 5, 4], [0, 0, 1, 0, 0, 0, 0, 0, 0]])
        self.assertEqual(given[3:5], [[0, 5, 4], [0, 0, 1, 0, 0, 0, 0, 0, 0]])
        self.assertEqual(given[5:7], [[0, 5, 4], [0, 1, 1, 0, 0, 0, 0, 0, 0]])

    def test_nothing_comes_from_the_machine(self):
        full = told_card({c: 4095 for c in range(80)})
        for place in range(256):
            steps = program(step(5, 4, 9, k=8, x=1), step(5, 5, 9, k=9, x=1))
            given = ask(setwork(steps, f"from {place} > to 9\n"), work(full), work(full), counters())
            self.assertEqual(given[3], [0, 0, 1, 0, 0, 0, 0, 0, 0])

    def test_nothing_goes_from_the_panel_into_the_card(self):
        text = "".join(f"send 1 > to {place}\n" for place in range(256))
        self.assertEqual(ask(setwork([], text), work([3, 4])), [[0], [0, 3, 4]])

    def test_a_counter_is_asked_as_it_is_by_then(self):
        steps = program(step(5, 2, k=8, j=8, x=5), step(5, 2, k=9, j=8, x=5), step(5, 3, k=10, j=8, x=5))
        self.assertEqual(ask(setwork(steps), work([]), counters())[2], [0, 5, 0, 5, 0, 0, 0, 0, 0])


class SkipTest(unittest.TestCase):
    def marks(self, *steps):
        return ask(setwork(program(*steps)), work([]), counters())[2][1:]

    def mark(self, place):
        return step(5, k=8 + place, x=1)

    def test_so_many_steps(self):
        for s in range(10):
            steps = [step(10, s=s)] + [self.mark(place) for place in range(8)]
            self.assertEqual(self.marks(*steps), [0 if place < s else 1 for place in range(8)])

    def test_up_to_and_past_the_programs_end(self):
        for many in range(4):
            for s in range(65):
                steps = [self.mark(0), step(10, s=s)] + [self.mark(1 + place) for place in range(many)]
                expected = [1] + [1 if place < many and place >= s else 0 for place in range(7)]
                self.assertEqual(self.marks(*steps), expected, (many, s))

    def test_a_step_that_is_not_done_has_its_place(self):
        undone = step(5, 3, k=15, j=0, x=1)
        steps = [step(10, s=2), undone, self.mark(0), self.mark(1), step(10, s=2), self.mark(2), undone, self.mark(3)]
        self.assertEqual(self.marks(*steps), [0, 1, 0, 1, 0, 0, 0, 0])

    def test_a_skipped_skip_skips_nothing(self):
        steps = [step(10, s=1), step(10, s=5), self.mark(0), step(10, s=0), self.mark(1)]
        self.assertEqual(self.marks(*steps), [1, 1, 0, 0, 0, 0, 0, 0])

    def test_a_skip_that_is_not_done(self):
        steps = [step(10, 3, j=0, s=64), self.mark(0), step(10, 2, j=0, s=1), self.mark(1), self.mark(2)]
        self.assertEqual(self.marks(*steps), [1, 0, 1, 0, 0, 0, 0, 0])

    def test_over_64_steps(self):
        steps = [step(10, s=62)] + [self.mark(0)] * 62 + [self.mark(1)]
        self.assertEqual(self.marks(*steps), [0, 1, 0, 0, 0, 0, 0, 0])
        steps = [step(10, s=63)] + [self.mark(0)] * 63
        self.assertEqual(self.marks(*steps), [0] * 8)

    def test_nothing_goes_wrong_in_a_skipped_step(self):
        wrongs = [step(0, k=8, c=0, n=1), step(4, k=8, j=9, s=10)]
        self.assertEqual(ask(setwork(program(step(10, s=2), *wrongs)), work([3, 5]))[1], [0, 3, 5])
        self.assertEqual(ask(setwork(program(step(10, s=1), *wrongs)), work([3, 5]))[1], [-5, 3, 2])


class KeptTest(unittest.TestCase):
    def test_at_first_0(self):
        self.assertEqual(ask(setwork([]), counters()), [[0], [0] * 9])
        steps = program(*[step(9, k=k, c=k, n=1) for k in range(16)])
        self.assertEqual(ask(setwork(steps), work([]))[1], [0] + told_card({c: figure(0) for c in range(16)}))

    def test_0_to_7_begin_anew_and_8_to_15_stay(self):
        show = [step(9, k=k, c=2 * k, n=2) for k in range(16)]
        fill = [step(5, k=k, x=10 + k) for k in range(16)]
        given = ask(setwork(program(*show, *fill)), work([]), work([]))
        noughts = "00" * 16
        self.assertEqual(given[1], [0] + told_card(amount_at(0, noughts)))
        kept = "00" * 8 + "".join(str(10 + k) for k in range(8, 16))
        self.assertEqual(given[2], [0] + told_card(amount_at(0, kept)))

    def test_a_total_over_cards(self):
        steps = program(step(0, k=0, c=0, n=4), step(1, k=12, j=0), step(9, k=12, c=10, n=5))
        cards = [amount_at(0, "  17"), amount_at(0, "0020-"), amount_at(0, "9999")]
        given = ask(setwork(steps), *[work(told_card(card)) for card in cards], counters())
        totals = ("00017", "00003-", "09996")
        for answer, card, total in zip(given[1:4], cards, totals):
            self.assertEqual(answer, [0] + told_card({**card, **amount_at(10, total)}))
        self.assertEqual(given[4], [0, 0, 0, 0, 0, 9996, 0, 0, 0])

    def test_counters_changes_nothing(self):
        steps = program(step(5, k=0, x=1), step(1, k=8, j=0))
        given = ask(setwork(steps), counters(), work([]), counters(), counters(), work([]), counters())
        self.assertEqual([given[place][1] for place in (1, 3, 4, 6)], [0, 1, 1, 2])

    def test_set_up_anew(self):
        fill = setwork(program(*[step(5, k=k, x=k) for k in range(16)]))
        given = ask(fill, work([]), counters(), fill, counters(), work([]), setwork([]), counters(), work([2, 3]))
        self.assertEqual(given[2], [0] + list(range(8, 16)))
        self.assertEqual(given[4], [0] * 9)
        self.assertEqual(given[7:], [[0] * 9, [0, 2, 3]])


class WrongTest(unittest.TestCase):
    wrongs = {
        1: [step(0, k=9, c=70, n=3)],
        2: [step(5, k=0, x=10), step(8, k=0, s=15)],
        3: [step(4, k=9, j=1, s=10)],
        4: [step(5, k=0, x=100), step(9, k=0, c=5, n=2)],
    }

    def test_what_is_wrong_and_the_steps_number(self):
        for wrong, steps in self.wrongs.items():
            for before in (0, 1, 64 - len(steps)):
                numbers = program(*[step(5, k=7, x=1)] * before, *steps)
                given = ask(setwork(numbers), work([]))[1]
                self.assertEqual(given, [-5, wrong, before + len(steps) - 1])

    def test_steps_that_are_not_done_count(self):
        undone = step(5, 3, k=7, j=7, x=1)
        for wrong, steps in self.wrongs.items():
            numbers = program(undone, step(10, s=2), undone, undone, *steps, undone)
            self.assertEqual(ask(setwork(numbers), work([]))[1], [-5, wrong, 3 + len(steps)])

    def test_the_first_that_goes_wrong(self):
        numbers = program(*self.wrongs[4], *self.wrongs[1], *self.wrongs[3])
        self.assertEqual(ask(setwork(numbers), work([]))[1], [-5, 4, 1])

    def test_what_is_kept_is_as_it_was(self):
        for wrong, steps in self.wrongs.items():
            # With holes in column 60 the steps that go wrong are skipped.
            numbers = program(step(5, k=1, x=5), step(1, k=8, j=1), step(1, k=15, j=8), step(9, k=8, c=30, n=2),
                              step(5, k=1, x=0), step(10, 4, 0, s=len(steps)), *steps)
            good = work([60, 1])
            given = ask(setwork(numbers, "read 60 > to 0\n"), good, work([]), counters(), good, counters())
            self.assertEqual(given[1], [0] + told_card({**amount_at(30, "05"), 60: 1}))
            self.assertEqual(given[2], [-5, wrong, 5 + len(steps)])
            self.assertEqual(given[3], [0, 5, 0, 0, 0, 0, 0, 0, 5])
            self.assertEqual(given[4], [0] + told_card({**amount_at(30, "10"), 60: 1}))
            self.assertEqual(given[5], [0, 10, 0, 0, 0, 0, 0, 0, 15])

    def test_a_first_card_with_which_something_goes_wrong(self):
        for steps in self.wrongs.values():
            numbers = program(*[step(5, k=k, x=9) for k in range(8, 16)], step(9, k=8, c=0, n=1), *steps)
            self.assertEqual(ask(setwork(numbers), work([]), counters())[2], [0] * 9)


class RefusalTest(unittest.TestCase):
    def test_it_is_not_set_up(self):
        for call in (work([]), counters()):
            self.assertEqual(ask_one(call), [-3])
            self.assertEqual(ask(setcopy(""), call), [[0], [-3]])
            self.assertEqual(ask(setwork([1]), call), [[-2], [-3]])

    def test_no_card(self):
        for why, numbers in NO_CARDS.items():
            with self.subTest(why):
                self.assertEqual(ask(setwork([]), work(numbers)), [[0], [-8]])

    def test_two_wrong_things_at_once(self):
        self.assertEqual(ask_one(work([0])), [-3])
        self.assertEqual(ask(setcopy(""), work([0])), [[0], [-3]])
        wrong = setwork(step(4, s=1))
        self.assertEqual(ask(wrong, work([])), [[0], [-5, 3, 0]])
        self.assertEqual(ask(wrong, work([0])), [[0], [-8]])

    def test_a_refused_call_between_two_that_are_not(self):
        steps = program(step(5, k=0, x=3), step(1, k=8, j=0), step(9, k=8, c=0, n=1), step(4, 4, 0, k=8, j=1, s=2))
        refused = {
            "no card": (work([0]), [-8]),
            "no such card": (work([80, 1]), [-8]),
            "something goes wrong": (work([9, 1]), [-5, 3, 3]),
            "no program": (setwork([1]), [-2]),
            "no panel": (setwork([], "x\n"), [-6, 1, 0, 0]),
            "no panel of the other punch": (setcopy("x\n"), [-6, 1, 0, 0]),
            "the other punch's card": (copy([], []), [-3]),
        }
        for why, (call, answer) in refused.items():
            with self.subTest(why):
                given = ask(setwork(steps, "read 9 > to 0\n"), work([]), call, counters(), work([]), counters())
                self.assertEqual(given[1:4], [[0, 0, figure(3)], answer, [0, 3] + [0] * 7])
                self.assertEqual(given[4:], [[0, 0, figure(6)], [0, 6] + [0] * 7])


class AgainstTheWordsTest(unittest.TestCase):
    """Whole programs over several cards; also M3: counters stay below 10^16, and M4: a refused card changes nothing."""

    signs = {0: " ", **{figure(d): str(d) for d in range(10)}, **{figure(d) | 2: "abcdefghij"[d] for d in range(10)}}

    def amount_in_words(self, card, c, n):
        text = "".join(self.signs.get(card.get(column, 0), "?") for column in range(c, c + n))
        if not re.fullmatch(" *[0-9]*[0-9a-j]", text):
            return None
        if text[-1].isdigit():
            return int(text)
        number = int(text[:-1].strip() + str("abcdefghij".index(text[-1])))
        return -number if number else None

    def do(self, numbers, counter, card):
        """Does a step that is done: what is wrong, 0 if nothing is, and how many steps it skips."""
        op, when, hub, k, j, c, n, s, x = numbers
        become = {}
        if op == 0:
            become[k] = self.amount_in_words(card, c, n)
            if become[k] is None:
                return 1, 0
        elif op in (1, 2, 3):
            become[k] = {1: counter[k] + counter[j], 2: counter[k] - counter[j], 3: counter[k] * counter[j]}[op]
        elif op == 4:
            if counter[j] == 0:
                return 3, 0
            quotient = quotient_in_words(counter[k], counter[j])
            become = {k: quotient}
            become[s] = counter[k] - quotient * counter[j]
        elif op in (5, 6):
            become[k] = x if op == 5 else counter[j]
        elif op == 7:
            become[k] = rounded_in_words(counter[k], s)
        elif op == 8:
            become[k] = counter[k] * 10 ** s
        elif op == 9:
            text = str(abs(counter[k]))
            if len(text) > n:
                return 4, 0
            card.update(amount_at(c, text.rjust(n, "0") + "-" * (counter[k] < 0)))
        if any(abs(number) >= LIMIT for number in become.values()):
            return 2, 0
        counter.update(become)
        return 0, s if op == 10 else 0

    def work_in_words(self, steps, kept, card):
        counter = {**{k: 0 for k in range(8)}, **kept}
        out = dict(card)
        skipped = 0
        for place, numbers in enumerate(steps):
            when, hub, j = numbers[1], numbers[2], counter[numbers[4]]
            something = card.get(hub, 0) > 0
            done = (True, j < 0, j == 0, j > 0, something, not something)[when]
            if skipped > 0:
                skipped -= 1
            elif done:
                wrong, skipped = self.do(numbers, counter, out)
                if wrong:
                    return [-5, wrong, place], kept
        return [0] + told_card(out), {k: counter[k] for k in range(8, 16)}

    def random_step(self, source):
        op = source.choice((0, 0, 1, 2, 3, 4, 5, 6, 7, 8, 9, 10))
        when = source.choice((0, 0, 0, 1, 2, 3, 4, 5))
        # Few counters and fields, so that steps meet one another.
        few = (0, 1, 8, 9)
        k = source.choice(few) if op != 10 else 0
        j = source.choice(few) if op in (1, 2, 3, 4, 6) or when in (1, 2, 3) else 0
        c, n = source.choice(((0, 3), (3, 18), (21, 2), (20, 3), (62, 18))) if op in (0, 9) else (0, 0)
        s = {4: source.choice(few), 7: source.randrange(4), 8: source.randrange(4), 10: source.randrange(4)}.get(op, 0)
        x = source.choice((0, 1, -1, 5, -45, 2 ** 31 - 1, -2 ** 31)) if op == 5 else 0
        return step(op, when, source.randrange(62, 80) if when in (4, 5) else 0, k, j, c, n, s, x)

    def random_card(self, source):
        card = {}
        for c, n in ((0, 3), (3, 18), (21, 2), (62, 18)):
            size = source.randrange(1, min(n, 16) + 1)
            number = source.randrange(10 ** size)
            text = str(number).rjust(n, source.choice(" 0"))
            card.update(amount_at(c, text + "-" * (number > 0 and source.randrange(2))))
        if source.randrange(6) == 0:
            card[source.randrange(80)] = source.randrange(1, 4096)
        return card

    def test_programs(self):
        source = random.Random(13)
        seen = {}
        for turn in range(1500):
            steps = [step(0, k=0, c=3, n=18), step(0, k=1, c=0, n=3), step(0, k=9, c=62, n=18)][:source.randrange(4)]
            steps += [self.random_step(source) for k in range(source.randrange(1, 13))]
            cards = [self.random_card(source) for k in range(4)]
            text = "".join(f"read {c} > to {c}\n" for c in range(62, 80))
            calls = [call for card in cards for call in (work(told_card(card)), counters())]
            given = ask(setwork(program(*steps), text), *calls)
            self.assertEqual(given[0], [0])
            kept = {k: 0 for k in range(8, 16)}
            for place, card in enumerate(cards):
                expected, kept = self.work_in_words(steps, kept, card)
                self.assertEqual(given[1 + 2 * place], expected, (steps, cards))
                self.assertEqual(given[2 + 2 * place], [0] + [kept[k] for k in range(8, 16)], (steps, cards))
                self.assertTrue(all(abs(number) < LIMIT for number in kept.values()))
                outcome = expected[1] if expected[0] else 0
                seen[outcome] = seen.get(outcome, 0) + 1
        self.assertGreater(seen[0], 1500)
        self.assertTrue(all(seen[wrong] > 50 for wrong in (1, 2, 3, 4)), seen)


class PromiseM3Test(unittest.TestCase):
    def test_quotients_and_rests_make_up_the_number(self):
        source = random.Random(14)
        steps = program(*load(0, 1), step(6, k=2, j=0), step(4, k=0, j=1, s=3), step(6, k=8, j=0), step(6, k=9, j=3),
                        step(3, k=0, j=1), step(1, k=0, j=3), step(2, k=2, j=0), step(6, k=10, j=2))
        for turn in range(200):
            number = source.randrange(-10 ** source.randrange(1, 17), 10 ** source.randrange(1, 17))
            by = source.choice((1, -1)) * source.randrange(1, 10 ** source.randrange(1, 17))
            given = ask(setwork(steps), work(told_card(card_with(number, by))), counters())
            quotient, rest, lacking = given[2][1:4]
            self.assertEqual(quotient * by + rest, number)
            self.assertEqual(lacking, 0)
            self.assertLess(abs(rest), abs(by))
            self.assertTrue(rest == 0 or (rest < 0) == (number < 0))

    def test_rows_of_a_written_amount(self):
        given = ask(setwork(program(step(5, k=0, x=-10), step(9, k=0, c=0, n=3))), work([]))[1]
        self.assertEqual(given, [0, 0, rows_punched(2), 1, rows_punched(3), 2, rows_punched(1, 2)])


if __name__ == "__main__":
    unittest.main()
