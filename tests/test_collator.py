"""follow, collate, and M2."""

import random
import unittest

from tests.helper import ask_one, cards_of, collate, figure, follow, ranks, rows_punched, told

NO_FIELDS = ((-1, 1), (0, 0), (0, -1), (80, 1), (79, 2), (0, 81), (1, 80), (-1, 80), (-5, 6),
             (10 ** 18, 1), (0, 10 ** 18), (-10 ** 18, 10 ** 18), (10 ** 18, -10 ** 18))
HOLES = [0, figure(0), figure(1), figure(2), rows_punched(0), rows_punched(0, 1), 4095]


def at_column(column, *figures):
    """Cards that are told apart by column 40, with a figure each in the told column."""
    return [{column: figure(d), 40: k + 1} for k, d in enumerate(figures)]


def sequenced(source, many, c, n, mark):
    cards = []
    for k in range(many):
        card = {mark: 1 + k}
        for column in range(c, c + n):
            holes = source.choice(HOLES)
            if holes:
                card[column] = holes
        cards.append(card)
    return sorted(cards, key=lambda card: ranks(card, c, n))


class FollowTest(unittest.TestCase):
    def test_in_sequence(self):
        self.assertEqual(ask_one(follow(3, 1, told(at_column(3, 1, 1, 2, 9, 0)))), [0])

    def test_none_and_one(self):
        self.assertEqual(ask_one(follow(0, 80, [])), [0])
        self.assertEqual(ask_one(follow(0, 80, told([{3: 9}]))), [0])

    def test_alike_are_in_sequence(self):
        self.assertEqual(ask_one(follow(3, 1, told(at_column(3, 4, 4, 4)))), [0])

    def test_least_place(self):
        self.assertEqual(ask_one(follow(3, 1, told(at_column(3, 2, 1)))), [1])
        self.assertEqual(ask_one(follow(3, 1, told(at_column(3, 1, 2, 3, 1, 2, 1)))), [3])
        self.assertEqual(ask_one(follow(3, 1, told(at_column(3, 1, 2, 3, 4, 3)))), [4])

    def test_it_is_held_against_the_card_just_before(self):
        self.assertEqual(ask_one(follow(3, 1, told(at_column(3, 5, 1, 2, 3)))), [1])

    def test_only_the_field_counts(self):
        cards = [{2: figure(9), 3: figure(1), 4: figure(9)}, {2: figure(1), 3: figure(2), 4: figure(1)}]
        self.assertEqual(ask_one(follow(3, 1, told(cards))), [0])
        self.assertEqual(ask_one(follow(2, 2, told(cards))), [1])
        self.assertEqual(ask_one(follow(3, 2, told(cards))), [0])
        self.assertEqual(ask_one(follow(4, 1, told(cards))), [1])

    def test_edges_of_fields(self):
        cards = told([{79: figure(2)}, {79: figure(1)}])
        self.assertEqual(ask_one(follow(79, 1, cards)), [1])
        self.assertEqual(ask_one(follow(0, 80, cards)), [1])
        self.assertEqual(ask_one(follow(0, 79, cards)), [0])
        self.assertEqual(ask_one(follow(1, 79, cards)), [1])

    def test_no_field(self):
        for c, n in NO_FIELDS:
            self.assertEqual(ask_one(follow(c, n, [])), [-3], (c, n))

    def test_no_deck_before_no_field(self):
        self.assertEqual(ask_one(follow(-1, 1, [1])), [-8])

    def test_against_the_words(self):
        source = random.Random(4)
        for turn in range(300):
            cards = sequenced(source, source.randrange(8), 5, 2, 40)
            if cards and source.randrange(2):
                cards.insert(source.randrange(len(cards)), cards.pop())
            keys = [ranks(card, 5, 2) for card in cards]
            places = [i for i in range(1, len(keys)) if keys[i] < keys[i - 1]]
            self.assertEqual(ask_one(follow(5, 2, told(cards))), [min(places, default=0)])

    def test_longest_deck(self):
        full = {c: 1 for c in range(80)}
        deck = told([{}] + [{c: 1 for c in range(77)}] + [full] * 104)
        self.assertEqual(len(deck), 16900)
        self.assertEqual(ask_one(follow(77, 3, deck)), [0])
        self.assertEqual(ask_one(follow(77, 3, deck[1:] + [0])), [105])


class MergedTest(unittest.TestCase):
    def test_lesser_first_and_of_two_alike_the_first_decks(self):
        first = [{3: figure(1), 50: 1}, {3: figure(2), 50: 2}, {3: figure(2), 50: 3}]
        second = [{7: figure(1), 60: 1}, {7: figure(1), 60: 2}, {7: figure(2), 60: 3}, {7: figure(0), 60: 4}]
        merged = [first[0], second[0], second[1], first[1], first[2], second[2], second[3]]
        answer = ask_one(collate(3, 7, 1, 0, told(first), told(second)))
        self.assertEqual(answer, [0, 7, 0, 0, 0] + told(merged))

    def test_one_deck_or_both_without_cards(self):
        deck = told(at_column(3, 1, 2))
        self.assertEqual(ask_one(collate(3, 3, 1, 0, deck, [])), [0, 2, 0, 0, 0] + deck)
        self.assertEqual(ask_one(collate(3, 3, 1, 0, [], deck)), [0, 2, 0, 0, 0] + deck)
        self.assertEqual(ask_one(collate(3, 3, 1, 0, [], [])), [0, 0, 0, 0, 0])

    def test_2000_cards_are_told(self):
        self.assertEqual(ask_one(collate(0, 0, 80, 0, [0] * 1000, [0] * 1000)), [0, 2000, 0, 0, 0] + [0] * 2000)


class MatchedTest(unittest.TestCase):
    first = [{3: figure(1)}, {3: figure(2), 50: 1}, {3: figure(2), 50: 2}, {3: figure(4)}, {3: figure(6)}]
    second = [{7: figure(2), 60: 1}, {7: figure(3)}, {7: figure(4), 60: 2}, {7: figure(4), 60: 3}, {7: figure(0)}]

    def test_matched(self):
        first = self.first
        second = self.second
        pockets = ([first[0], first[4]], first[1:4], [second[0], second[2], second[3]], [second[1], second[4]])
        expected = [0, 2, 3, 3, 2] + [number for pocket in pockets for number in told(pocket)]
        self.assertEqual(ask_one(collate(3, 7, 1, 1, told(first), told(second))), expected)

    def test_merged_where_matched(self):
        first = self.first
        second = self.second
        merged = [first[1], first[2], second[0], first[3], second[2], second[3]]
        expected = [0, 2, 6, 0, 2] + told([first[0], first[4]] + merged + [second[1], second[4]])
        self.assertEqual(ask_one(collate(3, 7, 1, 2, told(first), told(second))), expected)

    def test_without_cards(self):
        deck = told(self.first)
        for how in (1, 2):
            self.assertEqual(ask_one(collate(3, 7, 1, how, deck, [])), [0, 5, 0, 0, 0] + deck)
            self.assertEqual(ask_one(collate(7, 3, 1, how, [], deck)), [0, 0, 0, 0, 5] + deck)
            self.assertEqual(ask_one(collate(7, 3, 1, how, [], [])), [0, 0, 0, 0, 0])

    def test_2000_cards_are_told(self):
        cards = [0] * 1000
        self.assertEqual(ask_one(collate(0, 1, 79, 1, cards, cards)), [0, 0, 1000, 1000, 0] + cards * 2)
        self.assertEqual(ask_one(collate(0, 1, 79, 2, cards, cards)), [0, 0, 2000, 0, 0] + cards * 2)


class CollateAgainstTheWordsTest(unittest.TestCase):
    def pockets(self, first, second, c, e, n, how):
        keyed = [(ranks(card, c, n), 0, k, card) for k, card in enumerate(first)]
        keyed += [(ranks(card, e, n), 1, k, card) for k, card in enumerate(second)]
        merged = sorted(keyed, key=lambda one: one[:3])
        if how == 0:
            return [[one[3] for one in merged], [], [], []]
        both = [[one[0] for one in keyed if one[1] == deck] for deck in (0, 1)]
        alone = [[one[3] for one in keyed if one[1] == deck and one[0] not in both[1 - deck]] for deck in (0, 1)]
        like = [one for one in merged if one[0] in both[1 - one[1]]]
        if how == 2:
            return [alone[0], [one[3] for one in like], [], alone[1]]
        return [alone[0], [one[3] for one in like if one[1] == 0], [one[3] for one in like if one[1] == 1], alone[1]]

    def test_pockets(self):
        source = random.Random(5)
        for turn in range(400):
            how = turn % 3
            n = 1 + source.randrange(2)
            first = sequenced(source, source.randrange(9), 5, n, 40)
            second = sequenced(source, source.randrange(9), 70, n, 50)
            pockets = self.pockets(first, second, 5, 70, n, how)
            expected = [0] + [len(pocket) for pocket in pockets] + told(sum(pockets, []))
            self.assertEqual(ask_one(collate(5, 70, n, how, told(first), told(second))), expected)


class CollateRefusalTest(unittest.TestCase):
    falling = told(at_column(3, 1, 2, 3, 1, 0, 1))
    rising = told(at_column(3, 1, 2, 3))

    def test_no_field(self):
        for c, n in NO_FIELDS:
            self.assertEqual(ask_one(collate(c, 0, n, 0, [], [])), [-3], (c, n))
            self.assertEqual(ask_one(collate(0, c, n, 0, [], [])), [-3], (c, n))

    def test_one_of_the_fields_is_there_the_other_is_not(self):
        self.assertEqual(ask_one(collate(0, 75, 6, 0, [], [])), [-3])
        self.assertEqual(ask_one(collate(75, 0, 6, 0, [], [])), [-3])
        self.assertEqual(ask_one(collate(75, 75, 5, 0, [], [])), [0, 0, 0, 0, 0])

    def test_how(self):
        for how in (-1, 3, 10 ** 18, -10 ** 18):
            self.assertEqual(ask_one(collate(0, 0, 1, how, [], [])), [-3])

    def test_out_of_sequence(self):
        for how in (0, 1, 2):
            self.assertEqual(ask_one(collate(3, 3, 1, how, self.falling, self.rising)), [-5, 3])
            self.assertEqual(ask_one(collate(3, 3, 1, how, self.rising, self.falling)), [-6, 3])

    def test_each_deck_by_its_own_field(self):
        self.assertEqual(ask_one(collate(3, 4, 1, 0, self.rising, self.falling))[0], 0)
        self.assertEqual(ask_one(collate(4, 3, 1, 0, self.falling, self.rising))[0], 0)

    def test_two_wrong_things_at_once(self):
        late = told(at_column(3, 1, 2, 1))
        self.assertEqual(ask_one(collate(3, 3, 1, 0, self.falling, late)), [-5, 3])
        self.assertEqual(ask_one(collate(3, 3, 1, 0, late, self.falling)), [-5, 2])
        self.assertEqual(ask_one(collate(3, 3, 1, 3, self.falling, self.rising)), [-3])
        self.assertEqual(ask_one(collate(3, 3, 1, 3, self.rising, self.falling)), [-3])
        self.assertEqual(ask_one(collate(3, 80, 1, 0, self.falling, self.rising)), [-3])
        self.assertEqual(ask_one(collate(3, 80, 1, 0, [1], self.rising)), [-8])
        self.assertEqual(ask_one(collate(3, 3, 1, 3, self.rising, [1])), [-8])
        self.assertEqual(ask_one(collate(3, 3, 1, 0, self.falling, [1])), [-8])


class PromiseM2Test(unittest.TestCase):
    def setUp(self):
        source = random.Random(6)
        self.first = sequenced(source, 120, 5, 2, 40)
        self.second = sequenced(source, 120, 70, 2, 50)

    def test_merged_decks_are_in_sequence(self):
        answer = ask_one(collate(5, 70, 2, 0, told(self.first), told(self.second)))
        keys = [ranks(card, 5, 2) if 40 in card else ranks(card, 70, 2) for card in cards_of(answer[5:])]
        self.assertEqual(len(keys), 240)
        self.assertEqual(keys, sorted(keys))

    def test_matched_pockets_have_the_same_fields(self):
        answer = ask_one(collate(5, 70, 2, 1, told(self.first), told(self.second)))
        cards = cards_of(answer[5:])
        first_like = cards[answer[1]:answer[1] + answer[2]]
        second_like = cards[answer[1] + answer[2]:answer[1] + answer[2] + answer[3]]
        fields = {tuple(ranks(card, 5, 2)) for card in first_like}
        self.assertEqual(fields, {tuple(ranks(card, 70, 2)) for card in second_like})
        self.assertTrue(fields)


if __name__ == "__main__":
    unittest.main()
