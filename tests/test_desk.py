"""The interface, and what setcopy sets up."""

import unittest

from cardpunches.desk import CallReader, Desk, UnknownCall, answer_call, answers
from tests.helper import ORDER, ask, ask_one, collate, follow, select, setcopy, signs, the_pass, told

DECK = told([{0: 8}, {0: 16}])
CALLS = (
    the_pass(0, 4095, ORDER, DECK), follow(0, 1, DECK), collate(0, 0, 1, 0, DECK, DECK),
    select("read 0 > to 0\n", DECK), setcopy("read 0 > to 0\n"), follow(-1, 1, DECK), setcopy("x\n"), follow(0, 1, [1]),
)


class AnswersTest(unittest.TestCase):
    def test_each_answer_with_its_length_ahead(self):
        self.assertEqual(answers(follow(0, 1, DECK)), [1, 0])
        self.assertEqual(answers(follow(0, 1, [1])), [1, -8])
        self.assertEqual(answers(follow(0, 0, [])), [1, -3])
        self.assertEqual(answers(setcopy("")), [1, 0])
        self.assertEqual(answers(setcopy("read\n")), [4, -6, 1, 0, 4])
        self.assertEqual(answers(setcopy("x" * 16385)), [1, -1])
        falling = told([{0: 16}, {0: 8}])
        self.assertEqual(answers(collate(0, 0, 1, 0, falling, [])), [2, -5, 1])
        self.assertEqual(answers(collate(0, 0, 1, 0, [], falling)), [2, -6, 1])
        self.assertEqual(answers(select("read 0 > to 0\n", DECK)), [9, 0, 0, 2] + DECK)
        self.assertEqual(answers(the_pass(0, 0, ORDER, [])), [14] + [0] * 14)

    def test_calls_one_behind_another(self):
        together = answers([number for call in CALLS for number in call])
        apart = [number for call in CALLS for number in answers(call)]
        self.assertEqual(together, apart)

    def test_100_calls(self):
        given = ask(*[CALLS[k % len(CALLS)] for k in range(100)])
        self.assertEqual(given, [ask_one(CALLS[k % len(CALLS)]) for k in range(100)])

    def test_longest_list_of_calls(self):
        call = follow(0, 80, [0] * 1000)
        self.assertEqual(ask(*[call] * 16), [[0]] * 16)

    def test_what_is_handed_in_is_not_changed(self):
        calls = [number for call in CALLS for number in call]
        before = list(calls)
        answers(calls)
        self.assertEqual(calls, before)

    def test_nothing_is_kept(self):
        calls = [number for call in CALLS for number in call]
        given = answers(calls)
        given_before = list(given)
        again = answers(calls)
        self.assertEqual(again, given_before)
        again.append(1)
        self.assertEqual(given, given_before)

    def test_whole_numbers_in_a_list(self):
        given = answers([number for call in CALLS for number in call])
        self.assertIs(type(given), list)
        self.assertEqual({type(number) for number in given}, {int})

    def test_a_number_that_is_no_calls(self):
        for number in (0, -1, 10):
            self.assertRaises(UnknownCall, answers, [number])


class SetcopyTest(unittest.TestCase):
    def call(self, desk, call):
        return answer_call(CallReader(call), desk)

    def test_none_is_set_up_at_first(self):
        self.assertIsNone(Desk().punch)

    def test_set_up_with_no_card_punched_before(self):
        desk = Desk()
        self.assertEqual(self.call(desk, setcopy("both 0 > to 1\nread 0 > one 0\n")), [0])
        self.assertEqual(desk.punch.panel, [(("read", 0), ("one", 0)), (("both", 0), ("to", 1))])
        self.assertEqual(desk.punch.last_card, [0] * 80)

    def test_set_up_anew(self):
        desk = Desk()
        self.call(desk, setcopy("read 0 > to 1\n"))
        desk.punch.last_card[3] = 5
        self.assertEqual(self.call(desk, setcopy("")), [0])
        self.assertEqual(desk.punch.panel, [])
        self.assertEqual(desk.punch.last_card, [0] * 80)

    def test_a_refusal_changes_nothing(self):
        desk = Desk()
        for text in ("x\n", "read 0 > to 0\n" * 2, "x" * 16385):
            self.call(desk, setcopy(text))
            self.assertIsNone(desk.punch)
        self.call(desk, setcopy("read 0 > to 1\n"))
        punch = desk.punch
        for text in ("x\n", "read 0 > to 0\n" * 2, "x" * 16385):
            self.assertLess(self.call(desk, setcopy(text))[0], 0)
            self.assertIs(desk.punch, punch)

    def test_other_calls_leave_it(self):
        desk = Desk()
        self.call(desk, setcopy("read 0 > to 1\n"))
        punch = desk.punch
        for call in CALLS[:4]:
            self.call(desk, call)
            self.assertIs(desk.punch, punch)

    def test_each_byte_may_be_handed_in(self):
        for sign in range(256):
            self.assertEqual(answers([5, 1, sign])[1], -6)
        self.assertEqual(answers([5, 0]), [1, 0])
        self.assertEqual(signs("\n"), [10])


if __name__ == "__main__":
    unittest.main()
