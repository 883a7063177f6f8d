"""A panel's text and its faults, as setcopy and select answer them."""

import random
import unittest

from tests.helper import ask, ask_one, select, setcopy

SENDERS = {
    "read": (79,), "send": (63,), "from": (255,), "upper": (63,), "lower": (63,), "hole": (63, 11),
    "chosen": (63,), "both": (63,),
}
TAKERS = {
    "to": (255,), "split": (63,), "look": (63,), "by": (63,), "plain": (63,), "other": (63,), "one": (63,),
    "two": (63,),
}


def written(hubs):
    """Each hub as it is written."""
    texts = []
    for name, mosts in hubs.items():
        ends = [""]
        for most in mosts:
            ends = [f"{end} {number}" for end in ends for number in range(most + 1)]
        texts += [name + end for end in ends]
    return texts


def beginnings(texts):
    return {text[:length] for text in texts for length in range(len(text) + 1)}


ALL_SENDERS = written(SENDERS)
ALL_TAKERS = written(TAKERS)
FIRST_HALVES = {sender + " > " for sender in ALL_SENDERS}
BEGINNINGS = beginnings(FIRST_HALVES)
SECOND_HALVES = {taker + "\n" for taker in ALL_TAKERS}
SECOND_BEGINNINGS = beginnings(SECOND_HALVES)


def begins_some_line(text):
    if text in BEGINNINGS:
        return True
    half, mark, rest = text.partition(" > ")
    return half + mark in FIRST_HALVES and rest in SECOND_BEGINNINGS


def is_line(text):
    half, mark, rest = text.partition(" > ")
    return half + mark in FIRST_HALVES and rest in SECOND_HALVES


def right_signs(text):
    return max(length for length in range(len(text) + 1) if begins_some_line(text[:length]))


def wires_to(many):
    """So many sound lines, each to a place of its own."""
    return [f"read {k % 80} > to {k}\n" for k in range(many)]


class PanelTest(unittest.TestCase):
    def both_calls(self, text):
        set_up, selected = ask(setcopy(text), select(text, []))
        if set_up == [0]:
            self.assertEqual(selected, [0, 0, 0])
        else:
            self.assertEqual(selected, set_up)
        return set_up

    def assert_taken(self, text):
        self.assertEqual(self.both_calls(text), [0], text)

    def assert_fault(self, text, *fault):
        self.assertEqual(self.both_calls(text), [-6] + list(fault), text)


class LineTest(PanelTest):
    def test_no_lines(self):
        self.assert_taken("")

    def test_each_sender(self):
        for begin in range(0, len(ALL_SENDERS), 256):
            senders = ALL_SENDERS[begin:begin + 256]
            self.assert_taken("".join(f"{sender} > to {k}\n" for k, sender in enumerate(senders)))

    def test_each_taker(self):
        for begin in range(0, len(ALL_TAKERS), 256):
            self.assert_taken("".join(f"read 0 > {taker}\n" for taker in ALL_TAKERS[begin:begin + 256]))

    def test_greatest_number_and_one_more_of_each_hub(self):
        for name, mosts in SENDERS.items():
            numbers = " ".join(str(most) for most in mosts)
            self.assert_taken(f"{name} {numbers} > to 0\n")
            for place in range(len(mosts)):
                wrong = list(mosts)
                wrong[place] += 1
                begin = name + "".join(f" {number}" for number in wrong[:place + 1])
                rest = "".join(f" {number}" for number in wrong[place + 1:])
                self.assert_fault(f"{begin}{rest} > to 0\n", 1, 0, len(begin) - 1)
        for name, mosts in TAKERS.items():
            self.assert_taken(f"read 0 > {name} {mosts[0]}\n")
            wrong = f"read 0 > {name} {mosts[0] + 1}"
            self.assert_fault(wrong + "\n", 1, 0, len(wrong) - 1)

    def test_right_signs_told_by_hand(self):
        told = {
            "\n": 0, " \n": 0, "x\n": 0, "Read 0 > to 0\n": 0, "r\n": 1, "reab 0\n": 3, "read\n": 4, "read \n": 5,
            "read 0\n": 6, "read  0 > to 0\n": 5, "read 00 > to 0\n": 6, "read 07 > to 0\n": 6,
            "read 80 > to 0\n": 6, "read 799 > to 0\n": 7, "read -1 > to 0\n": 5, "read 0> to 0\n": 6,
            "read 0 to 0\n": 7, "read 0 >to 0\n": 8, "read 0 > to 0": 13, "read 0 > to 0 \n": 13,
            "read 0 > to 00\n": 13, "read 0 > to 256\n": 14, "read 0 > to 300\n": 14, "read 0 > t 0\n": 10,
            "read 0 > tw 0\n": 11, "read 0 > on 0\n": 11, "read 0 > ot 0\n": 11, "read 0 > read 0\n": 9,
            "to 0 > to 0\n": 0, "hole 1 > to 0\n": 7, "hole 63 12 > to 0\n": 9, "hole 64 0 > to 0\n": 6,
            "hole 1 1 1 > to 0\n": 9, "read 0 > to 0\r\n": 13, "read 0 > split 64\n": 16, "read\t0 > to 0\n": 4,
            "read 0 > to 0 > to 1\n": 13, "upper 0 1 > to 0\n": 8, "\x00\n": 0, "\xff\n": 0,
        }
        for text, right in told.items():
            self.assertEqual(right_signs(text), right, text)
            self.assert_fault(text, 1, 0, right)

    def test_a_last_line_without_its_end(self):
        whole = "hole 63 11 > plain 63\n"
        for length in range(1, len(whole)):
            self.assert_fault(whole[:length], 1, 0, length)
            self.assert_fault("read 1 > to 1\n" + whole[:length], 1, 1, length)
        self.assert_fault("read 1 > to 1\nx", 1, 1, 0)

    def test_the_first_that_is_no_line(self):
        lines = wires_to(5)
        for place in range(5):
            wrong = list(lines)
            wrong[place] = "read 5 < to 1\n"
            self.assert_fault("".join(wrong), 1, place, 7)
            self.assert_fault("".join(wrong) + "x\n", 1, place, 7)
        self.assert_fault("read 1 > to 1\n\nread 2 > to 2\n", 1, 1, 0)
        self.assert_fault("read 1 > to 1\n\n", 1, 1, 0)

    def test_each_sign_at_each_place(self):
        for whole in ("hole 6 1 > other 10\n", "from 25 > to 2\n", "both 0 > look 6\n"):
            for place in range(len(whole)):
                for sign in range(256):
                    text = whole[:place] + chr(sign) + whole[place + 1:]
                    if "\n" in text[:-1] or not text.endswith("\n"):
                        text = text.split("\n")[0] + "\n"
                    if is_line(text):
                        self.assert_taken(text)
                    else:
                        self.assert_fault(text, 1, 0, right_signs(text))

    def test_lines_put_together_from_pieces(self):
        source = random.Random(7)
        pieces = list(SENDERS) + list(TAKERS) + [" ", " > ", ">", "0", "1", "6", "7", "9", "63", "255", "11"]
        for turn in range(3000):
            sender = source.choice(ALL_SENDERS)
            taker = source.choice(ALL_TAKERS)
            parts = [sender, " > ", taker]
            parts[source.randrange(3)] = "".join(source.choices(pieces, k=source.randrange(4)))
            text = "".join(parts) + "\n"
            if is_line(text):
                self.assertIn(self.both_calls(text), ([0], [-6, 4, 0, 0]), text)
            else:
                self.assert_fault(text, 1, 0, right_signs(text))


class LimitTest(PanelTest):
    def test_the_256th_and_the_257th_line(self):
        self.assert_taken("".join(wires_to(255)))
        self.assert_taken("".join(wires_to(256)))
        self.assert_fault("".join(wires_to(256)) + "read 0 > one 0\n", 2, 256, 0)

    def test_the_257th_line_whatever_it_says(self):
        for last in ("\n", "x\n", "x", "read 0 > one 0", "read 0 > to 0\n", "upper 0 > split 0\n", "\n\n\n"):
            self.assert_fault("".join(wires_to(256)) + last, 2, 256, 0)

    def test_whichever_line_is_the_first(self):
        lines = wires_to(256) + ["x\n"]
        lines[255] = "read 0 > to\n"
        self.assert_fault("".join(lines), 1, 255, 11)
        lines[0] = "\n"
        self.assert_fault("".join(lines), 1, 0, 0)

    def test_a_257th_line_before_faults_of_wires(self):
        self.assert_fault("upper 0 > split 0\n" * 257, 2, 256, 0)
        self.assert_fault("read 0 > to 0\n" * 257, 2, 256, 0)
        self.assert_fault("read 0 > to 0\n" * 256, 3, 1, 0)

    def test_longest_text(self):
        lines = "".join(wires_to(256))
        for filler in ("x", "\n"):
            text = lines + filler * (16384 - len(lines))
            self.assert_fault(text, 2, 256, 0)
            self.assertEqual(self.both_calls(text + filler), [-1])
        self.assert_fault("read 0" + "0" * 16378, 1, 0, 6)
        self.assertEqual(self.both_calls("read 0" + "0" * 16379), [-1])
        self.assertEqual(self.both_calls("x" * 16900), [-1])

    def test_longest_panel(self):
        takers = [taker for taker in ALL_TAKERS if taker.split()[0] in ("to", "split", "plain", "other", "look")]
        takers = sorted(takers, key=len)[-256:]
        text = "".join(f"read 79 > {taker}\n" for taker in takers)
        self.assert_taken(text)
        self.assert_fault(text + "r", 2, 256, 0)


class WireFaultTest(PanelTest):
    def test_two_wires_to_one_hub(self):
        self.assert_fault("read 0 > to 5\nread 1 > to 5\n", 3, 1, 0)
        self.assert_fault("read 0 > to 5\nread 0 > to 5\n", 3, 1, 0)
        self.assert_fault("read 0 > by 1\nread 1 > to 1\nread 1 > by 1\nread 1 > to 1\n", 3, 2, 0)
        for taker in ("to 255", "split 3", "look 3", "by 3", "plain 3", "other 3", "one 3", "two 3"):
            self.assert_fault(f"read 0 > {taker}\nread 9 > to 1\nread 1 > {taker}\n", 3, 2, 0)

    def test_hubs_of_one_number_or_one_name_are_different(self):
        self.assert_taken("".join(f"read 0 > {name} 3\n" for name in TAKERS))
        self.assert_taken("read 0 > by 0\nread 0 > by 1\n")

    def test_one_hub_may_send_to_many(self):
        self.assert_taken("read 0 > by 0\nread 0 > by 1\nupper 0 > to 0\nupper 0 > to 1\n")

    def test_a_box_that_sends_to_itself(self):
        rounds = ("upper 7 > split 7", "lower 7 > split 7", "hole 7 0 > look 7", "hole 7 11 > look 7",
                  "chosen 7 > by 7", "chosen 7 > plain 7", "chosen 7 > other 7", "both 7 > one 7", "both 7 > two 7")
        for wire in rounds:
            self.assert_fault(wire + "\n", 4, 0, 0)
            self.assert_fault("read 0 > to 0\n" + wire + "\n", 4, 1, 0)

    def test_the_same_number_of_different_boxes_makes_no_round(self):
        self.assert_taken("upper 7 > look 7\nhole 7 1 > by 7\nchosen 7 > one 7\nboth 7 > to 7\n")
        self.assert_taken("upper 7 > split 8\n")

    def test_a_round_of_several_boxes(self):
        wires = ["upper 1 > look 2\n", "hole 2 5 > plain 3\n", "chosen 3 > two 4\n", "both 4 > split 1\n"]
        for turn in range(4):
            turned = wires[turn:] + wires[:turn]
            self.assert_taken("".join(turned[:3]))
            self.assert_fault("".join(turned), 4, 3, 0)
            self.assert_fault("".join(turned) + "read 1 > split 1\n", 4, 3, 0)

    def test_ways_that_part_and_meet_are_no_round(self):
        self.assert_taken("upper 0 > one 0\nlower 0 > two 0\nboth 0 > to 0\nread 0 > split 0\n")

    def test_the_first_wire_and_of_one_wire_3_before_4(self):
        self.assert_fault("read 0 > split 0\nupper 0 > split 0\n", 3, 1, 0)
        self.assert_fault("upper 0 > split 0\nread 0 > split 0\n", 4, 0, 0)
        self.assert_fault("read 0 > to 0\nupper 0 > split 0\nread 0 > to 0\n", 4, 1, 0)
        self.assert_fault("read 0 > to 0\nread 0 > to 0\nupper 0 > split 0\n", 3, 1, 0)

    def test_no_line_before_faults_of_wires(self):
        self.assert_fault("read 0 > to 0\nread 0 > to 0\nupper 0 > split 0\nx\n", 1, 3, 0)

    def test_a_round_of_256_boxes(self):
        boxes = [(f"upper {k}", f"split {k}") for k in range(64)]
        boxes += [(f"hole {k} 0", f"look {k}") for k in range(64)]
        boxes += [(f"chosen {k}", f"by {k}") for k in range(64)]
        boxes += [(f"both {k}", f"one {k}") for k in range(64)]
        wires = [f"{boxes[k][0]} > {boxes[(k + 1) % 256][1]}\n" for k in range(256)]
        self.assert_fault("".join(wires), 4, 255, 0)
        self.assert_fault("".join(reversed(wires)), 4, 255, 0)
        self.assert_taken("".join(wires[:255]))

    def test_against_the_words(self):
        source = random.Random(8)
        senders = ["upper 0", "lower 1", "hole 0 3", "hole 1 3", "chosen 0", "chosen 1", "both 0", "both 1", "read 0"]
        takers = [f"{name} {k}" for name in TAKERS for k in (0, 1)]
        box = {"upper": "s", "lower": "s", "split": "s", "hole": "l", "look": "l", "chosen": "c", "by": "c",
               "plain": "c", "other": "c", "both": "b", "one": "b", "two": "b"}
        for turn in range(1500):
            wires = [(source.choice(senders), source.choice(takers)) for k in range(source.randrange(12))]
            text = "".join(f"{sender} > {taker}\n" for sender, taker in wires)
            fault = self.fault_in_words(wires, box)
            if fault:
                self.assert_fault(text, *fault)
            else:
                self.assert_taken(text)

    def fault_in_words(self, wires, box):
        for place, (sender, taker) in enumerate(wires):
            if taker in [before[1] for before in wires[:place]]:
                return (3, place, 0)
            pairs = {(box.get(s.split()[0], s) + s.split()[1], box.get(t.split()[0], t) + t.split()[1])
                     for s, t in wires[:place + 1]}
            while True:
                more = {(a, d) for a, b in pairs for c, d in pairs if b == c} - pairs
                if not more:
                    break
                pairs |= more
            if any(a == b for a, b in pairs):
                return (4, place, 0)
        return None


class OrderOfRefusalsTest(unittest.TestCase):
    def test_select(self):
        no_deck = [1]
        self.assertEqual(ask_one(select("x" * 16385, no_deck)), [-1])
        self.assertEqual(ask_one(select("x\n", no_deck)), [-6, 1, 0, 0])
        self.assertEqual(ask_one(select("read 0 > to 0\n" * 257, no_deck)), [-6, 2, 256, 0])
        self.assertEqual(ask_one(select("read 0 > to 0\n" * 2, no_deck)), [-6, 3, 1, 0])
        self.assertEqual(ask_one(select("upper 0 > split 0\n", no_deck)), [-6, 4, 0, 0])
        self.assertEqual(ask_one(select("read 0 > to 0\n", no_deck)), [-8])


if __name__ == "__main__":
    unittest.main()
