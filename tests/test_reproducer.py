"""copy: the reproducing punch."""

import random
import unittest

from tests.helper import NO_CARDS, ask, ask_one, copy, counters, goes_in_words, setcopy, setwork, text_of, told_card

GANG = "".join(f"from {k} > to {k}\n" for k in range(80))


def run(text, *pairs):
    """The answers to copies of pairs of cards, on a punch that is just set up."""
    calls = [copy(told_card(read), told_card(card)) for read, card in pairs]
    return ask(setcopy(text), *calls)[1:]


def punched(card, stop=0):
    return [0, stop] + told_card(card)


class BecomesTest(unittest.TestCase):
    def test_without_wires_the_card_is_as_it_was(self):
        full = {c: 4095 for c in range(80)}
        for card in ({}, {3: 5}, full):
            self.assertEqual(run("", (full, card)), [punched(card)])

    def test_each_column(self):
        for k in range(80):
            answer = run(f"read {79 - k} > to {k}\n", ({79 - k: 4 + k}, {}))
            self.assertEqual(answer, [punched({k: 4 + k})])

    def test_its_holes_and_what_goes_in_together(self):
        self.assertEqual(run("read 0 > to 7\n", ({0: 12}, {7: 6})), [punched({7: 14})])
        self.assertEqual(run("read 0 > to 7\n", ({0: 12}, {7: 3, 8: 1})), [punched({7: 15, 8: 1})])
        self.assertEqual(run("read 0 > to 7\n", ({}, {7: 6})), [punched({7: 6})])
        self.assertEqual(run("read 0 > to 7\n", ({0: 6}, {7: 6})), [punched({7: 6})])

    def test_the_read_card_is_not_the_punched_one(self):
        self.assertEqual(run("read 0 > to 7\n", ({0: 1, 5: 2}, {0: 8})), [punched({0: 8, 7: 1})])

    def test_places_81_to_95_and_compared_ones_punch_nothing(self):
        text = "".join(f"send 1 > to {place}\n" for place in range(81, 256))
        self.assertEqual(run(text, ({}, {4: 9})), [punched({4: 9})])

    def test_by_a_panel_with_boxes(self):
        text = ("read 3 > look 0\nhole 0 4 > by 0\nread 9 > other 0\nread 8 > split 1\nupper 1 > plain 0\n"
                "chosen 0 > one 5\nfrom 80 > two 5\nboth 5 > to 79\n")
        self.assertEqual(run(text, ({3: 16, 8: 3, 9: 1024}, {})), [punched({79: 1024})])
        self.assertEqual(run(text, ({3: 32, 8: 7, 9: 1024}, {})), [punched({79: 3})])
        self.assertEqual(run(text, ({3: 32, 8: 7, 9: 1024}, {0: 64})), [punched({0: 64, 79: 67})])

    def test_the_longest_panel(self):
        lines = [f"read {k} > to {k}\n" for k in range(80)]
        lines += [f"read {k} > to {96 + k}\nfrom {80 + k} > to {176 + k}\n" for k in range(80)]
        lines += [f"send 0 > to {k}\n" for k in range(80, 96)]
        self.assertEqual("".join(lines).count("\n"), 256)
        card = {c: 50 * c + 7 for c in range(80)}
        self.assertEqual(run("".join(lines), (card, card)), [punched(card)])
        self.assertEqual(run("".join(lines), (card, {**card, 79: 1, 78: 1})), [[-5, 78]])


class MachineTest(unittest.TestCase):
    def test_the_first_card_has_none_before_it(self):
        self.assertEqual(run(GANG, ({5: 5}, {3: 9})), [punched({3: 9})])

    def test_the_card_punched_last(self):
        answers = run("from 3 > to 4\nread 0 > to 3\n", ({0: 1}, {3: 8}), ({0: 2}, {5: 7}), ({}, {}), ({}, {}))
        first = {3: 9}
        second = {3: 2, 4: 9, 5: 7}
        third = {4: 2}
        self.assertEqual(answers, [punched(first), punched(second), punched(third), punched({})])

    def test_each_column_of_the_card_punched_last(self):
        card = {c: 1 + 50 * c for c in range(80)}
        for k in range(80):
            answers = run(f"from {k} > to 0\n", ({}, card), ({}, {}))
            self.assertEqual(answers[1], punched({0: card[k]}), k)
        self.assertEqual(run(GANG, ({}, card), ({}, {}), ({}, {}))[1:], [punched(card)] * 2)

    def test_each_column_of_the_card_to_be_punched(self):
        card = {c: 1 + 50 * c for c in range(1, 80)}
        for k in range(1, 80):
            self.assertEqual(run(f"from {80 + k} > to 0\n", ({}, card)), [punched({**card, 0: card[k]})], k)
        self.assertEqual(run("from 80 > to 9\n", ({0: 4}, {0: 3})), [punched({0: 3, 9: 3})])

    def test_nothing_from_160_on(self):
        full = {c: 4095 for c in range(80)}
        for place in range(160, 256):
            answers = run(f"from {place} > to 80\n", (full, full), (full, full))
            self.assertEqual(answers, [punched(full), punched(full)], place)

    def test_the_card_to_be_punched_is_sent_as_it_was(self):
        self.assertEqual(run("read 0 > to 1\nfrom 81 > to 2\n", ({0: 4}, {1: 3})), [punched({1: 7, 2: 3})])


class DifferTest(unittest.TestCase):
    def test_each_place(self):
        for k in range(80):
            text = f"read 0 > to {96 + k}\nread 1 > to {176 + k}\n"
            answers = run(text, ({0: 5, 1: 5}, {}), ({0: 5, 1: 4}, {}), ({}, {}), ({0: 5}, {}), ({1: 5}, {}))
            self.assertEqual(answers, [punched({}), [-5, k], punched({}), [-5, k], [-5, k]])

    def test_one_place_without_a_wire(self):
        for place in (96, 176):
            self.assertEqual(run(f"read 0 > to {place}\n", ({0: 1}, {}), ({}, {})), [[-5, 0], punched({})])

    def test_the_least_of_several(self):
        text = "".join(f"read {k} > to {96 + k}\nfrom {80 + k} > to {176 + k}\n" for k in (70, 5, 33, 79, 0))
        card = {0: 1, 5: 2, 33: 3, 70: 4, 79: 5}
        self.assertEqual(run(text, (card, card)), [punched(card)])
        wrong = dict(card)
        for k in (79, 70, 33, 5, 0):
            wrong[k] = 9
            self.assertEqual(run(text, (card, wrong)), [[-5, k]])

    def test_the_neighbours_do_not_count(self):
        self.assertEqual(run("read 0 > to 95\n", ({0: 1}, {})), [punched({})])
        self.assertEqual(run("read 0 > to 175\n", ({0: 1}, {})), [[-5, 79]])
        self.assertEqual(run("read 0 > to 255\n", ({0: 1}, {})), [[-5, 79]])
        self.assertEqual(run("read 0 > to 96\nread 0 > to 177\n", ({0: 1}, {})), [[-5, 0]])

    def test_nothing_is_punched_and_all_is_as_it_was(self):
        text = "from 0 > to 1\nread 0 > to 0\nread 2 > to 99\n"
        answers = run(text, ({0: 1}, {}), ({0: 2, 2: 1}, {}), ({0: 4}, {}), ({}, {}))
        self.assertEqual(answers, [punched({0: 1}), [-5, 3], punched({0: 4, 1: 1}), punched({1: 4})])

    def test_the_first_card_differs(self):
        answers = run("from 0 > to 1\nread 2 > to 99\n", ({2: 1}, {0: 7}), ({}, {0: 8}), ({}, {}))
        self.assertEqual(answers, [[-5, 3], punched({0: 8}), punched({1: 8})])

    def test_differing_before_a_stop(self):
        self.assertEqual(run("read 0 > to 80\nread 0 > to 96\n", ({0: 1}, {})), [[-5, 0]])


class StopTest(unittest.TestCase):
    def test_it_stops_behind_the_card(self):
        text = "read 0 > to 80\nread 1 > to 1\n"
        answers = run(text, ({1: 1}, {}), ({0: 1, 1: 2}, {}), ({1: 3}, {}), ({0: 2048}, {3: 1}))
        self.assertEqual(answers, [punched({1: 1}), punched({1: 2}, 1), punched({1: 3}), punched({3: 1}, 1)])

    def test_a_card_it_stops_behind_is_the_one_punched_last(self):
        answers = run("read 0 > to 80\nfrom 1 > to 2\n", ({0: 1}, {1: 5}), ({}, {}))
        self.assertEqual(answers, [punched({1: 5}, 1), punched({2: 5})])

    def test_no_other_place_stops(self):
        for place in (79, 81):
            self.assertEqual(run(f"send 1 > to {place}\n", ({}, {}))[0][1], 0)


class RefusalTest(unittest.TestCase):
    def test_it_is_not_set_up(self):
        self.assertEqual(ask_one(copy([], [])), [-3])
        self.assertEqual(ask(setwork([]), copy([], [])), [[0], [-3]])
        self.assertEqual(ask(setcopy("x\n"), copy([], [])), [[-6, 1, 0, 0], [-3]])

    def test_no_card(self):
        for why, numbers in NO_CARDS.items():
            with self.subTest(why):
                self.assertEqual(ask(setcopy(""), copy(numbers, [])), [[0], [-8]])
                if why != "the longest row":
                    self.assertEqual(ask(setcopy(""), copy([], numbers)), [[0], [-8]])
                    self.assertEqual(ask(setcopy(""), copy(numbers, numbers)), [[0], [-8]])
        self.assertEqual(ask(setcopy(""), copy([], NO_CARDS["the longest row"])), [[0], [-8]])

    def test_two_wrong_things_at_once(self):
        self.assertEqual(ask_one(copy([0], [])), [-3])
        self.assertEqual(ask_one(copy([], [0])), [-3])
        self.assertEqual(ask(setwork([]), copy([0], [0])), [[0], [-3]])
        differing = "send 1 > to 96\n"
        self.assertEqual(ask(setcopy(differing), copy([], [])), [[0], [-5, 0]])
        self.assertEqual(ask(setcopy(differing), copy([0], [])), [[0], [-8]])
        self.assertEqual(ask(setcopy(differing), copy([], [0])), [[0], [-8]])

    def test_a_refused_call_between_two_that_are_not(self):
        refused = {
            "no card is read": (copy([0], [4, 1]), [-8]),
            "no card is to be punched": (copy([4, 1], [0]), [-8]),
            "they differ": (copy([2, 1], [0, 2]), [-5, 0]),
            "no panel": (setcopy("x\n"), [-6, 1, 0, 0]),
            "too long a panel": (setcopy("x" * 16385), [-1]),
            "no program": (setwork([1]), [-2]),
            "a program without a panel": (setwork([], "x\n"), [-6, 1, 0, 0]),
            "counters": (counters(), [-3]),
        }
        for why, (call, answer) in refused.items():
            with self.subTest(why):
                given = ask(setcopy("from 0 > to 1\nread 2 > to 96\n"), copy([], [0, 7]), call, copy([], []))
                self.assertEqual(given, [[0], [0, 0, 0, 7], answer, [0, 0, 1, 7]])


class AgainstTheWordsTest(unittest.TestCase):
    """Also M3: nothing is rubbed out, and M4: a refused card changes nothing."""

    def random_card(self, source):
        return {c: source.randrange(1, 8) for c in source.sample(range(4), source.randrange(4))}

    def random_wires(self, source):
        senders = [("read", k) for k in range(4)] + [("from", k) for k in (0, 1, 2, 80, 81, 82, 160, 255)]
        senders += [("send", 3), ("upper", 0), ("lower", 0), ("both", 0), ("chosen", 0)]
        takers = [("to", k) for k in (0, 1, 2, 3, 80, 81, 96, 97, 98, 176, 177, 178)]
        boxes = [("split", 0), ("one", 0), ("two", 0), ("by", 0), ("plain", 0), ("other", 0)]
        wires = [(source.choice(senders), taker) for taker in source.sample(takers, source.randrange(9))]
        return wires + [(source.choice(senders[:13]), box) for box in boxes]

    def answer_in_words(self, wires, read, card, last):
        machine = [last.get(k, 0) for k in range(80)] + [card.get(k, 0) for k in range(80)] + [0] * 96
        g = [goes_in_words(wires, read, machine, ("to", k)) for k in range(256)]
        places = [k for k in range(80) if g[96 + k] != g[176 + k]]
        if places:
            return [-5, min(places)], last
        made = {k: card.get(k, 0) | g[k] for k in range(80) if card.get(k, 0) | g[k]}
        return [0, 1 if g[80] else 0] + told_card(made), made

    def test_copies(self):
        source = random.Random(11)
        refused = 0
        for turn in range(150):
            wires = self.random_wires(source)
            pairs = [(self.random_card(source), self.random_card(source)) for k in range(6)]
            last = {}
            for given, (read, card) in zip(run(text_of(wires), *pairs), pairs):
                expected, last = self.answer_in_words(wires, read, card, last)
                self.assertEqual(given, expected, (wires, read, card))
                refused += given[0] == -5
                if given[0] == 0:
                    out = dict(zip(given[2::2], given[3::2]))
                    self.assertTrue(all(out.get(k, 0) & card[k] == card[k] for k in card))
        self.assertTrue(200 < refused < 800, refused)


if __name__ == "__main__":
    unittest.main()
