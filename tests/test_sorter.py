"""The pass, how it is stacked, and M1."""

import random
import unittest

from tests.helper import ORDER, ask_one, cards_of, figure, follow, rows_punched, the_pass, told

ALL_ROWS = 4095
FIGURE_ROWS = rows_punched(*range(2, 12))
BY_WHAT_THEY_SAY = [12] + list(range(2, 12)) + [0, 1]
INTO_SEQUENCE = [12] + list(range(3, 12)) + [2, 0, 1]


def pocket_in_words(holes, looked):
    for r in range(11, -1, -1):
        if looked >> r & 1 and holes >> r & 1:
            return r
    return 12


def random_cards(source, many):
    cards = []
    for k in range(many):
        columns = source.sample(range(80), source.randrange(4))
        cards.append({c: source.randrange(1, 4096) for c in columns + [5]})
    return cards


class PassTest(unittest.TestCase):
    def counts(self, looked, *holes):
        cards = [{9: one} if one else {} for one in holes]
        answer = ask_one(the_pass(9, looked, ORDER, told(cards)))
        self.assertEqual(answer[0], 0)
        return {pocket: many for pocket, many in enumerate(answer[1:14]) if many}

    def test_each_single_row(self):
        for r in range(12):
            self.assertEqual(self.counts(ALL_ROWS, 1 << r), {r: 1})

    def test_greatest_row_counts(self):
        self.assertEqual(self.counts(ALL_ROWS, rows_punched(0, 4, 7)), {7: 1})

    def test_only_looked_at_rows_count(self):
        self.assertEqual(self.counts(rows_punched(0, 4), rows_punched(0, 4, 7)), {4: 1})
        self.assertEqual(self.counts(rows_punched(5), rows_punched(0, 4, 7)), {12: 1})

    def test_none_punched_or_none_looked_at(self):
        self.assertEqual(self.counts(ALL_ROWS, 0), {12: 1})
        self.assertEqual(self.counts(0, ALL_ROWS), {12: 1})

    def test_bits_from_12_on_are_nothing(self):
        self.assertEqual(self.counts(4096, ALL_ROWS), {12: 1})
        self.assertEqual(self.counts(4096 + 2, ALL_ROWS), {1: 1})
        self.assertEqual(self.counts(10 ** 18, ALL_ROWS), {12: 1})
        self.assertEqual(self.counts(10 ** 18 - 1, ALL_ROWS), {11: 1})

    def test_only_the_told_column_counts(self):
        cards = [{8: 1, 9: 2, 10: 4}]
        answer = ask_one(the_pass(9, ALL_ROWS, ORDER, told(cards)))
        self.assertEqual(answer, [0, 0, 1] + [0] * 11 + told(cards))

    def test_first_and_last_column(self):
        cards = [{0: 1, 79: 2}]
        self.assertEqual(ask_one(the_pass(0, ALL_ROWS, ORDER, told(cards)))[1:3], [1, 0])
        self.assertEqual(ask_one(the_pass(79, ALL_ROWS, ORDER, told(cards)))[1:3], [0, 1])

    def test_no_cards(self):
        self.assertEqual(ask_one(the_pass(0, 1, ORDER, [])), [0] * 14)

    def test_stacked_as_the_order_says_but_counted_by_pocket(self):
        order = [12, 3, 0, 1, 2, 4, 5, 6, 7, 8, 9, 10, 11]
        cards = [{0: 1}, {0: 8, 1: 1}, {}, {0: 8, 1: 2}, {0: 1, 1: 3}]
        stacked = [{}, {0: 8, 1: 1}, {0: 8, 1: 2}, {0: 1}, {0: 1, 1: 3}]
        counts = [2, 0, 0, 2, 0, 0, 0, 0, 0, 0, 0, 0, 1]
        self.assertEqual(ask_one(the_pass(0, ALL_ROWS, order, told(cards))), [0] + counts + told(stacked))

    def test_against_the_words(self):
        source = random.Random(1)
        for turn in range(60):
            cards = random_cards(source, source.randrange(40))
            order = source.sample(range(13), 13)
            looked = source.randrange(8192)
            pockets = [[] for k in range(13)]
            for card in cards:
                pockets[pocket_in_words(card.get(5, 0), looked)].append(card)
            stacked = [card for pocket in order for card in pockets[pocket]]
            expected = [0] + [len(pocket) for pocket in pockets] + told(stacked)
            self.assertEqual(ask_one(the_pass(5, looked, order, told(cards))), expected)

    def test_1000_cards(self):
        deck = told([{k % 80: 1 + k} for k in range(1000)])
        answer = ask_one(the_pass(0, 0, ORDER, deck))
        self.assertEqual(answer, [0] * 13 + [1000] + deck)


class RefusalTest(unittest.TestCase):
    def test_column(self):
        for c in (-1, 80, 10 ** 18, -10 ** 18):
            self.assertEqual(ask_one(the_pass(c, 1, ORDER, [])), [-3])

    def test_looked(self):
        for looked in (-1, -4096, -10 ** 18):
            self.assertEqual(ask_one(the_pass(0, looked, ORDER, [])), [-3])

    def test_order(self):
        orders = (
            [], [0], ORDER[:12], ORDER + [0], ORDER + [13], [0] * 13, list(range(1, 14)), list(range(-1, 12)),
            ORDER[:12] + [11], ORDER[:12] + [10 ** 18], ORDER[:12] + [-10 ** 18], ORDER * 1300,
        )
        for order in orders:
            self.assertEqual(ask_one(the_pass(0, 1, order, [])), [-3], order[:20])

    def test_no_deck_before_wrong_numbers(self):
        self.assertEqual(ask_one(the_pass(-1, 1, ORDER, [1])), [-8])
        self.assertEqual(ask_one(the_pass(0, -1, ORDER, [1])), [-8])
        self.assertEqual(ask_one(the_pass(0, 1, [], [1])), [-8])


class PromiseM1Test(unittest.TestCase):
    def sort_by_passes(self, cards, c, n, order):
        deck = told(cards)
        for column in range(c + n - 1, c - 1, -1):
            deck = ask_one(the_pass(column, FIGURE_ROWS, order, deck))[14:]
        return deck

    def cards_with_figures(self, c, n):
        source = random.Random(2)
        cards = []
        for k in range(300):
            card = {0: 1 + k}
            for column in range(c, c + n):
                card[column] = figure(source.randrange(10))
            cards.append(card)
        return cards

    def test_nothing_is_lost_and_pockets_keep_the_order(self):
        cards = random_cards(random.Random(3), 200)
        answer = ask_one(the_pass(5, ALL_ROWS, INTO_SEQUENCE, told(cards)))
        self.assertEqual(sum(answer[1:14]), 200)
        out = cards_of(answer[14:])
        for r in range(12):
            fallen = [card for card in cards if pocket_in_words(card.get(5, 0), ALL_ROWS) == r]
            self.assertEqual([card for card in out if pocket_in_words(card.get(5, 0), ALL_ROWS) == r], fallen)
        self.assertEqual(sorted(map(repr, map(told, [[card] for card in out]))),
                         sorted(map(repr, map(told, [[card] for card in cards]))))

    def test_by_what_they_say(self):
        cards = self.cards_with_figures(10, 3)
        expected = sorted(cards, key=lambda card: [card[c] for c in (10, 11, 12)])
        self.assertEqual(self.sort_by_passes(cards, 10, 3, BY_WHAT_THEY_SAY), told(expected))

    def test_into_sequence(self):
        cards = self.cards_with_figures(10, 3)
        deck = self.sort_by_passes(cards, 10, 3, INTO_SEQUENCE)
        self.assertEqual(ask_one(follow(10, 3, deck)), [0])
        self.assertNotEqual(ask_one(follow(10, 3, self.sort_by_passes(cards, 10, 3, BY_WHAT_THEY_SAY))), [0])


if __name__ == "__main__":
    unittest.main()
