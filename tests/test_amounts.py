"""Amounts: in a field, as op 0 reads them, and as they are written, as op 9 punches them."""

import unittest

from cardpunches.amounts import amount_fits, read_amount, write_amount
from tests.helper import amount_at, ask, counters, figure, program, rows_punched, setwork, step, told_card, work

MOST = 10 ** 16 - 1
NO_AMOUNT = 1
TOO_GREAT = 2
TOO_LONG = 4


class ReadTest(unittest.TestCase):
    def read(self, card, c, n):
        """What op 0 brings into counter 8, or what is wrong, as a text."""
        worked, kept = ask(setwork(step(0, k=8, c=c, n=n)), work(told_card(card)), counters())[1:]
        if worked[0] == -5:
            self.assertEqual((worked[2], kept), (0, [0] * 9))
            return f"wrong {worked[1]}"
        self.assertEqual(worked, [0] + told_card(card))
        self.assertEqual(kept[2:], [0] * 7)
        return kept[1]

    def assert_amount(self, text, amount):
        for c in (0, 30, 80 - len(text.rstrip("-"))):
            self.assertEqual(self.read(amount_at(c, text), c, len(text.rstrip("-"))), amount, (text, c))

    def test_figures(self):
        for d in range(10):
            self.assert_amount(str(d), d)
        self.assert_amount("12", 12)
        self.assert_amount("9876543210", 9876543210)

    def test_noughts_ahead_and_behind(self):
        self.assert_amount("007", 7)
        self.assert_amount("700", 700)
        self.assert_amount("000", 0)

    def test_columns_without_holes_first(self):
        self.assert_amount(" 7", 7)
        self.assert_amount("    12", 12)
        self.assert_amount("  012", 12)
        self.assert_amount("  0", 0)

    def test_columns_without_holes_elsewhere(self):
        for text in ("7 ", "1 2", " 1 2", "12  ", "1  2"):
            self.assert_amount(text, "wrong 1")

    def test_no_holes_at_all(self):
        for n in (1, 2, 18):
            self.assertEqual(self.read({}, 5, n), "wrong 1")

    def test_row_1(self):
        for d in range(1, 10):
            self.assert_amount(f"{d}-", -d)
        self.assert_amount("12-", -12)
        self.assert_amount("10-", -10)
        self.assert_amount("  010-", -10)

    def test_all_figures_0_and_row_1(self):
        for text in ("0-", "00-", " 0-", "0" * 18 + "-"):
            self.assert_amount(text, "wrong 1")

    def test_row_1_alone_in_the_last_column(self):
        self.assertEqual(self.read({4: rows_punched(1)}, 4, 1), "wrong 1")
        self.assertEqual(self.read({3: figure(5), 4: rows_punched(1)}, 3, 2), "wrong 1")

    def test_row_1_in_another_column(self):
        self.assertEqual(self.read({3: figure(5) | 2, 4: figure(5)}, 3, 2), "wrong 1")
        self.assertEqual(self.read({3: figure(5) | 2, 4: figure(5) | 2}, 3, 2), "wrong 1")
        self.assertEqual(self.read({3: 2, 4: figure(5)}, 3, 2), "wrong 1")

    def test_each_holes_of_a_last_column(self):
        told = {figure(d): d for d in range(10)}
        told.update({figure(d) | 2: -d for d in range(1, 10)})
        for holes in range(4096):
            self.assertEqual(read_amount([holes]), told.get(holes), holes)
            self.assertEqual(read_amount([0, holes]), told.get(holes), holes)
        told[figure(0) | 2] = 0
        for holes in range(4096):
            amount = told.get(holes)
            if amount is not None:
                amount = amount - 30 if holes & 2 else amount + 30
            self.assertEqual(read_amount([figure(3), holes]), amount, holes)

    def test_each_holes_of_another_column(self):
        told = {figure(d): 10 * d + 7 for d in range(10)}
        told[0] = 7
        for holes in range(4096):
            self.assertEqual(read_amount([holes, figure(7)]), told.get(holes), holes)
        told[0] = None
        for holes in range(4096):
            expected = told.get(holes)
            if expected is not None:
                expected += 300
            self.assertEqual(read_amount([figure(3), holes, figure(7)]), expected, holes)

    def test_what_stands_beside_the_field_does_not_count(self):
        card = {**amount_at(10, "12"), 9: 4095, 12: 4095}
        self.assertEqual(self.read(card, 10, 2), 12)
        self.assertEqual(self.read(card, 10, 3), "wrong 1")
        self.assertEqual(self.read(amount_at(10, "1234"), 11, 2), 23)

    def test_fields_of_18_columns(self):
        self.assert_amount("001234567890123456", 1234567890123456)
        self.assert_amount("  1234567890123456-", -1234567890123456)
        self.assert_amount(" " * 17 + "5", 5)
        self.assert_amount("00" + str(MOST), MOST)
        self.assert_amount("  " + str(MOST) + "-", -MOST)

    def test_10_to_the_16_in_size(self):
        for text in (str(MOST + 1), " " + str(MOST + 1), "9" * 17, "9" * 18):
            self.assert_amount(text, "wrong 2")
            self.assert_amount(text + "-", "wrong 2")
        self.assert_amount(str(MOST), MOST)
        self.assert_amount(str(MOST) + "-", -MOST)

    def test_each_counter(self):
        card = amount_at(0, "42")
        for k in range(16):
            steps = program(step(0, k=k, c=0, n=2), step(9, k=k, c=20, n=3))
            given = ask(setwork(steps), work(told_card(card)), counters())
            self.assertEqual(given[1], [0] + told_card({**card, **amount_at(20, "042")}))
            self.assertEqual(given[2], [0] + [42 if counter == k else 0 for counter in range(8, 16)])


class WriteTest(unittest.TestCase):
    def write(self, amount, c, n, card=()):
        """The card punched, with the amount, brought there by op 0, written into a field; or what is wrong."""
        source = amount_at(62, str(abs(amount)).rjust(18) + "-" * (amount < 0))
        given = ask(setwork(program(step(0, k=3, c=62, n=18), step(9, k=3, c=c, n=n))),
                    work(told_card({**dict(card), **source})))[1]
        if given[0] == -5:
            self.assertEqual(given[2], 1)
            return f"wrong {given[1]}"
        out = dict(zip(given[1::2], given[2::2]))
        return {column: holes for column, holes in out.items() if column < 62 or source.get(column) != holes}

    def test_no_column_without_holes(self):
        self.assertEqual(self.write(42, 10, 5), amount_at(10, "00042"))
        self.assertEqual(self.write(42, 10, 2), amount_at(10, "42"))
        self.assertEqual(self.write(0, 10, 1), amount_at(10, "0"))
        self.assertEqual(self.write(0, 10, 4), amount_at(10, "0000"))

    def test_below_0(self):
        self.assertEqual(self.write(-42, 10, 5), amount_at(10, "00042-"))
        self.assertEqual(self.write(-42, 10, 2), amount_at(10, "42-"))
        self.assertEqual(self.write(-10, 10, 2), {10: figure(1), 11: figure(0) | rows_punched(1)})
        self.assertEqual(self.write(-7, 10, 1), {10: figure(7) | rows_punched(1)})

    def test_more_figures_than_columns(self):
        for amount, n in ((10, 1), (-10, 1), (100, 2), (-999, 2), (MOST, 15), (-MOST, 15), (MOST, 1)):
            self.assertEqual(self.write(amount, 10, n), "wrong 4", (amount, n))
        for amount, n in ((9, 1), (-9, 1), (99, 2), (MOST, 16), (-MOST, 16)):
            self.assertEqual(self.write(amount, 10, n), amount_at(10, str(abs(amount)) + "-" * (amount < 0)))

    def test_fields_of_18_columns_and_at_the_cards_end(self):
        self.assertEqual(self.write(MOST, 0, 18), amount_at(0, "00" + str(MOST)))
        self.assertEqual(self.write(-MOST, 0, 18), amount_at(0, "00" + str(MOST) + "-"))
        given = ask(setwork(program(step(5, k=0, x=-305), step(9, k=0, c=62, n=18), step(9, k=0, c=0, n=3))), work([]))
        self.assertEqual(given[1], [0] + told_card({**amount_at(0, "305-"), **amount_at(62, "305-".rjust(19, "0"))}))

    def test_what_was_in_the_field_is_gone_and_what_was_beside_it_is_not(self):
        card = {c: 4095 for c in range(8, 15)}
        self.assertEqual(self.write(42, 10, 3, card),
                         {**{c: 4095 for c in (8, 9, 13, 14)}, **amount_at(10, "042")})

    def test_columns_of_each_size(self):
        for amount in (0, 5, -5, 1234567890123456, -1234567890123456):
            for n in range(len(str(abs(amount))), 19):
                columns = write_amount(amount, n)
                self.assertEqual(len(columns), n)
                self.assertNotIn(0, columns)
                self.assertEqual(read_amount(columns), amount)
            self.assertFalse(amount_fits(amount, len(str(abs(amount))) - 1))

    def test_a_field_that_a_step_9_has_punched_and_a_step_0_reads(self):
        steps = program(step(5, k=0, x=-37), step(9, k=0, c=4, n=3), step(0, k=8, c=4, n=3), step(0, k=9, c=5, n=2),
                        step(0, k=10, c=4, n=2))
        given = ask(setwork(steps), work(told_card({4: 4095, 6: 1})), counters())
        self.assertEqual(given[1], [0] + told_card(amount_at(4, "037-")))
        self.assertEqual(given[2], [0, -37, -37, 3, 0, 0, 0, 0, 0])

    def test_a_field_that_step_9_has_partly_punched_over(self):
        steps = program(step(5, k=0, x=-5), step(9, k=0, c=5, n=1), step(0, k=8, c=4, n=3))
        self.assertEqual(ask(setwork(steps), work(told_card(amount_at(4, "111"))))[1], [-5, 1, 2])
        steps = program(step(5, k=0, x=5), step(9, k=0, c=5, n=1), step(0, k=8, c=4, n=3))
        self.assertEqual(ask(setwork(steps), work(told_card(amount_at(4, "111"))), counters())[2][1], 151)


if __name__ == "__main__":
    unittest.main()
