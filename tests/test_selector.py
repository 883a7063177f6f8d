"""select, and what goes into a panel's hubs."""

import random
import unittest

from cardpunches.panels import read_panel, run_panel
from tests.helper import ask_one, column_list, goes_in_words, holes_by_code, select, signs, text_of, told

TAKERS = ("split", "look", "by", "plain", "other", "one", "two")


class HubTest(unittest.TestCase):
    def into(self, text, card, taker=("to", 0), machine=None):
        panel = read_panel(signs(text))
        return run_panel(panel, column_list(card), machine or [0] * 256).get(taker, 0)

    def test_read(self):
        card = {0: 5, 40: 6, 79: 4095}
        for column in (0, 40, 79, 1):
            self.assertEqual(self.into(f"read {column} > to 0\n", card), card.get(column, 0))

    def test_send(self):
        for number in range(64):
            self.assertEqual(self.into(f"send {number} > to 0\n", {}), holes_by_code(number))

    def test_from(self):
        machine = [3 * k + 1 for k in range(256)]
        for place in (0, 79, 160, 255):
            self.assertEqual(self.into(f"from {place} > to 0\n", {}, machine=machine), machine[place])

    def test_split(self):
        for holes in (4095, 1, 2, 4, 2048, 0):
            card = {3: holes}
            self.assertEqual(self.into("read 3 > split 9\nupper 9 > to 0\n", card), holes & 3)
            self.assertEqual(self.into("read 3 > split 9\nlower 9 > to 0\n", card), holes & 4092)

    def test_look(self):
        for m in range(12):
            text = f"read 3 > look 9\nhole 9 {m} > to 0\n"
            self.assertEqual(self.into(text, {3: 4095}), 1 << m)
            self.assertEqual(self.into(text, {3: 1 << m}), 1 << m)
            self.assertEqual(self.into(text, {3: 4095 - (1 << m)}), 0)

    def test_chosen(self):
        text = "read 1 > by 9\nread 2 > plain 9\nread 3 > other 9\nchosen 9 > to 0\n"
        self.assertEqual(self.into(text, {2: 20, 3: 30}), 20)
        self.assertEqual(self.into(text, {1: 1, 2: 20, 3: 30}), 30)
        self.assertEqual(self.into(text, {1: 2048, 2: 20}), 0)
        self.assertEqual(self.into(text, {3: 30}), 0)

    def test_both(self):
        text = "read 1 > one 9\nread 2 > two 9\nboth 9 > to 0\n"
        self.assertEqual(self.into(text, {1: 12, 2: 6}), 14)
        self.assertEqual(self.into(text, {1: 12}), 12)
        self.assertEqual(self.into(text, {2: 6}), 6)

    def test_a_hub_without_a_wire_gets_nothing(self):
        for sender in ("upper 9", "lower 9", "hole 9 0", "chosen 9", "both 9"):
            self.assertEqual(self.into(f"{sender} > to 0\nread 0 > to 1\n", {0: 4095}), 0)
        self.assertEqual(self.into("read 0 > to 1\n", {0: 4095}), 0)

    def test_boxes_of_other_numbers_do_not_count(self):
        self.assertEqual(self.into("read 0 > split 8\nupper 9 > to 0\n", {0: 4095}), 0)

    def test_wires_in_any_order(self):
        wires = ["read 0 > look 5\n", "hole 5 3 > by 5\n", "send 48 > other 5\n", "chosen 5 > one 5\n",
                 "read 1 > two 5\n", "both 5 > to 0\n"]
        source = random.Random(9)
        for turn in range(50):
            text = "".join(source.sample(wires, 6))
            self.assertEqual(self.into(text, {0: 8, 1: 2048}), 2048 + 4)
            self.assertEqual(self.into(text, {0: 16, 1: 2048}), 2048)

    def test_the_longest_way(self):
        wires = ["read 0 > split 0\n"] + [f"lower {k} > split {k + 1}\n" for k in range(63)]
        wires += ["lower 63 > one 0\n"] + [f"both {k} > one {k + 1}\n" for k in range(63)]
        wires += ["both 63 > plain 0\n"] + [f"chosen {k} > plain {k + 1}\n" for k in range(63)]
        wires += ["chosen 63 > look 0\n"] + [f"hole {k} 5 > look {k + 1}\n" for k in range(62)] + ["hole 62 5 > to 0\n"]
        self.assertEqual(len(wires), 256)
        for text in ("".join(wires), "".join(reversed(wires))):
            self.assertEqual(self.into(text, {0: 4095}), 32)
            self.assertEqual(self.into(text, {0: 4095 - 32}), 0)

    def test_against_the_tables(self):
        source = random.Random(10)
        senders = [(name, k) for name in ("upper", "lower", "chosen", "both") for k in (0, 1)]
        senders += [("hole", 0, 3), ("hole", 1, 7), ("read", 0), ("read", 1), ("send", 33), ("from", 7)]
        takers = [(name, k) for name in TAKERS + ("to",) for k in (0, 1)]
        level = {"split": 1, "upper": 1, "lower": 1, "look": 2, "hole": 2, "by": 3, "plain": 3, "other": 3,
                 "chosen": 3, "one": 4, "two": 4, "both": 4, "to": 9}
        machine = [0] * 256
        machine[7] = 1234
        for turn in range(1000):
            wires = []
            for taker in source.sample(takers, source.randrange(len(takers) + 1)):
                place = (level[taker[0]], taker[1])
                fitting = [s for s in senders if s[0] not in level or (level[s[0]], s[1]) < place]
                wires.append((source.choice(fitting), taker))
            card = {0: source.randrange(1, 4096), 1: source.randrange(1, 4096)}
            goes = run_panel(read_panel(signs(text_of(wires))), column_list(card), machine)
            for taker in takers:
                self.assertEqual(goes.get(taker, 0), goes_in_words(wires, card, machine, taker), wires)


class SelectTest(unittest.TestCase):
    def test_pockets(self):
        cards = [{0: 1, 5: 1}, {5: 2}, {0: 4095}, {}, {1: 7}]
        picked = [cards[0], cards[2]]
        others = [cards[1], cards[3], cards[4]]
        self.assertEqual(ask_one(select("read 0 > to 0\n", told(cards))), [0, 3, 2] + told(others + picked))

    def test_only_to_0_counts(self):
        deck = told([{0: 1}])
        self.assertEqual(ask_one(select("read 0 > to 1\n", deck)), [0, 1, 0] + deck)
        self.assertEqual(ask_one(select("", deck)), [0, 1, 0] + deck)

    def test_all_selected_and_no_cards(self):
        deck = told([{0: 1}, {}])
        self.assertEqual(ask_one(select("send 1 > to 0\n", deck)), [0, 0, 2] + deck)
        self.assertEqual(ask_one(select("send 0 > to 0\n", deck)), [0, 2, 0] + deck)
        self.assertEqual(ask_one(select("send 1 > to 0\n", [])), [0, 0, 0])

    def test_nothing_comes_from_the_machine(self):
        deck = told([{0: 1, 79: 4095}, {7: 4095}])
        for place in range(256):
            self.assertEqual(ask_one(select(f"from {place} > to 0\n", deck)), [0, 2, 0] + deck)

    def test_by_a_panel_with_boxes(self):
        text = ("read 3 > look 0\nhole 0 4 > by 0\nread 9 > other 0\nread 8 > split 1\nupper 1 > plain 0\n"
                "chosen 0 > to 0\n")
        cards = [{3: 16, 9: 1}, {3: 16, 8: 1}, {8: 3}, {8: 4}, {3: 4079, 8: 2, 9: 5}, {3: 4095, 8: 3}]
        picked = [cards[0], cards[2], cards[4]]
        others = [cards[1], cards[3], cards[5]]
        self.assertEqual(ask_one(select(text, told(cards))), [0, 3, 3] + told(others + picked))

    def test_1000_cards(self):
        cards = [{k % 2: 1 + k} for k in range(1000)]
        expected = [0, 500, 500] + told(cards[1::2] + cards[0::2])
        self.assertEqual(ask_one(select("read 0 > to 0\n", told(cards))), expected)


if __name__ == "__main__":
    unittest.main()
