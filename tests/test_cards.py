"""Cards: the code, ranks, fields, how cards and decks are told."""

import unittest

from cardpunches.cards import code_holes, column_rank, read_card, read_deck, tell_card, tell_deck
from tests.helper import NO_DECKS, ORDER, ask_one, collate, figure, follow, holes_by_code, rank_by_code
from tests.helper import rows_punched, select, the_pass, told


class CodeTest(unittest.TestCase):
    def test_known_numbers(self):
        known = {
            0: rows_punched(), 1: rows_punched(3), 9: rows_punched(11), 10: rows_punched(10, 4),
            15: rows_punched(10, 9), 16: rows_punched(0), 32: rows_punched(1), 48: rows_punched(2),
            17: rows_punched(0, 3), 47: rows_punched(1, 10, 9), 63: rows_punched(2, 10, 9),
        }
        for number, holes in known.items():
            self.assertEqual(code_holes(number), holes, number)

    def test_each_number(self):
        for number in range(64):
            self.assertEqual(code_holes(number), holes_by_code(number), number)

    def test_each_rank(self):
        for holes in range(4096):
            self.assertEqual(column_rank(holes), rank_by_code(holes), holes)

    def test_no_two_holes_have_one_rank(self):
        self.assertEqual(len({column_rank(holes) for holes in range(4096)}), 4096)


class OrderTest(unittest.TestCase):
    def in_sequence(self, holes):
        return ask_one(follow(7, 1, told([{7: one} if one else {} for one in holes]))) == [0]

    def test_numbers_rise(self):
        self.assertTrue(self.in_sequence([holes_by_code(n) for n in range(64)]))

    def test_all_ranks_rise(self):
        rising = sorted(range(4096), key=rank_by_code)
        for begin in range(0, 4096, 999):
            self.assertTrue(self.in_sequence(rising[begin:begin + 1000]))

    def test_figure_0_is_behind_figure_9(self):
        self.assertTrue(self.in_sequence([figure(9), figure(0)]))
        self.assertFalse(self.in_sequence([figure(0), figure(1)]))

    def test_holes_of_no_number_are_behind_all_numbers(self):
        none = rows_punched(0, 1)
        self.assertTrue(self.in_sequence([holes_by_code(63), none]))
        self.assertFalse(self.in_sequence([none, holes_by_code(63)]))

    def test_holes_of_no_number_stand_by_their_size(self):
        self.assertTrue(self.in_sequence([rows_punched(0, 1), rows_punched(0, 2), 4095]))
        self.assertFalse(self.in_sequence([4095, rows_punched(0, 1)]))

    def test_first_column_that_differs_settles_it(self):
        before = {3: figure(1), 4: figure(9)}
        behind = {3: figure(2), 4: figure(1)}
        self.assertEqual(ask_one(follow(3, 2, told([before, behind]))), [0])
        self.assertEqual(ask_one(follow(3, 2, told([behind, before]))), [1])
        self.assertEqual(ask_one(follow(4, 1, told([before, behind]))), [1])


class ToldTest(unittest.TestCase):
    def test_there_and_back(self):
        cards = [{}, {0: 1}, {79: 4095}, {c: c + 1 for c in range(80)}, {3: 9, 70: 2}]
        deck = read_deck(told(cards))
        self.assertEqual(len(deck), 5)
        self.assertEqual(tell_deck(deck), told(cards))
        self.assertEqual(tell_card(read_card([3, 9, 70, 2])), [3, 9, 70, 2])

    def test_no_numbers_are_a_card_without_holes_and_a_deck_without_cards(self):
        self.assertEqual(read_card([]), [0] * 80)
        self.assertEqual(read_deck([]), [])

    def test_numbers_that_are_no_cards(self):
        for numbers in ([0], [0, 0], [0, 4096], [-1, 1], [80, 1], [1, 1, 1, 1], [2, 1, 1, 1], [0, 1, 2]):
            self.assertIsNone(read_card(numbers), numbers)

    def test_1000_cards_are_taken(self):
        for deck in ([0] * 1000, [1, 3, 7] * 1000):
            self.assertEqual(ask_one(follow(0, 1, deck)), [0])

    def test_most_columns_and_most_holes_are_taken(self):
        full = told([{c: 4095 for c in range(80)}])
        self.assertEqual(ask_one(the_pass(0, 0, ORDER, full)), [0] + [0] * 12 + [1] + full)


class NoDeckTest(unittest.TestCase):
    def each_no_deck(self, call):
        for why, deck in NO_DECKS.items():
            with self.subTest(why):
                self.assertEqual(ask_one(call(deck)), [-8])

    def test_the_pass(self):
        self.each_no_deck(lambda deck: the_pass(0, 4095, ORDER, deck))

    def test_follow(self):
        self.each_no_deck(lambda deck: follow(0, 1, deck))

    def test_collate_first(self):
        self.each_no_deck(lambda deck: collate(0, 0, 1, 0, deck, []))

    def test_collate_second(self):
        self.each_no_deck(lambda deck: collate(0, 0, 1, 0, [], deck))

    def test_select(self):
        self.each_no_deck(lambda deck: select("", deck))


if __name__ == "__main__":
    unittest.main()
