"""The interface, and which punch is set up."""

import unittest

from cardpunches.desk import CallReader, Desk, UnknownCall, answer_call, answers
from tests.helper import ORDER, ask, ask_one, collate, copy, counters, follow, program, select, setcopy, setwork, signs
from tests.helper import step, the_pass, told, work

DECK = told([{0: 8}, {0: 16}])
CALLS = (
    the_pass(0, 4095, ORDER, DECK), follow(0, 1, DECK), collate(0, 0, 1, 0, DECK, DECK),
    select("read 0 > to 0\n", DECK), setcopy("read 0 > to 0\n"), follow(-1, 1, DECK), setcopy("x\n"), follow(0, 1, [1]),
)
GANG = "from 0 > to 1\nread 2 > to 96\nread 3 > to 80\n"
TOTAL = program(step(5, k=0, x=2), step(1, k=8, j=0), step(9, k=8, c=0, n=2), step(0, 4, 9, k=8, c=70, n=1))
# Each call that uses a punch, answered and refused in each way.
PUNCH_CALLS = (
    copy([], []), work([]), counters(), setcopy(GANG), copy([], [0, 5]), copy([3, 1], []), copy([2, 1], []),
    copy([0], []), copy([], []), setwork(TOTAL, "read 5 > to 9\n"), work([]), work([5, 1]), work([0]), counters(),
    setwork([1]), setwork([], "x\n"), setwork([], "x" * 300), copy([], []), work([1, 4]), counters(),
)
PUNCH_ANSWERS = [
    [-3], [-3], [-3], [0], [0, 0, 0, 5], [0, 1, 1, 5], [-5, 0], [-8], [0, 0], [0], [0, 0, 4, 1, 16], [-5, 1, 3], [-8],
    [0, 2, 0, 0, 0, 0, 0, 0, 0], [-2], [-6, 1, 0, 0], [-6, 1, 0, 0], [-3], [0, 0, 4, 1, 64],
    [0, 4, 0, 0, 0, 0, 0, 0, 0],
]


class ReadOnly(list):
    """A list that fails where somebody changes it, be it for a while only."""

    def fail(self, *given):
        raise AssertionError("what is handed in is changed")

    append = extend = insert = pop = remove = clear = sort = reverse = fail
    __setitem__ = __delitem__ = __iadd__ = __imul__ = fail


def flat(calls):
    return [number for call in calls for number in call]


class AnswersTest(unittest.TestCase):
    def test_each_answer_with_its_length_ahead(self):
        self.assertEqual(answers(follow(0, 1, DECK)), [1, 0])
        self.assertEqual(answers(follow(0, 1, [1])), [1, -8])
        self.assertEqual(answers(follow(0, 0, [])), [1, -3])
        self.assertEqual(answers(setcopy("")), [1, 0])
        self.assertEqual(answers(setcopy("read\n")), [4, -6, 1, 0, 4])
        self.assertEqual(answers(setcopy("x" * 16385)), [1, -1])
        falling = told([{0: 16}, {0: 8}])
        self.assertEqual(answers(collate(0, 0, 1, 0, falling, [])), [2, -5, 1])
        self.assertEqual(answers(collate(0, 0, 1, 0, [], falling)), [2, -6, 1])
        self.assertEqual(answers(select("read 0 > to 0\n", DECK)), [9, 0, 0, 2] + DECK)
        self.assertEqual(answers(the_pass(0, 0, ORDER, [])), [14] + [0] * 14)

    def test_calls_one_behind_another(self):
        together = answers(flat(CALLS))
        apart = [number for call in CALLS for number in answers(call)]
        self.assertEqual(together, apart)

    def test_each_answer_of_a_punch_with_its_length_ahead(self):
        self.assertEqual(answers(flat([setcopy(""), copy([], [3, 4])])), [1, 0, 4, 0, 0, 3, 4])
        self.assertEqual(answers(flat([setcopy(""), copy([], [])])), [1, 0, 2, 0, 0])
        self.assertEqual(answers(flat([setcopy("send 1 > to 97\n"), copy([], [])])), [1, 0, 2, -5, 1])
        self.assertEqual(answers(flat([setwork([]), work([3, 4])])), [1, 0, 3, 0, 3, 4])
        self.assertEqual(answers(flat([setwork([]), work([])])), [1, 0, 1, 0])
        self.assertEqual(answers(flat([setwork(step(4)), work([])])), [1, 0, 3, -5, 3, 0])
        self.assertEqual(answers(flat([setwork([]), counters()])), [1, 0, 9] + [0] * 9)
        self.assertEqual(answers(copy([], [])), [1, -3])
        self.assertEqual(answers(work([])), [1, -3])
        self.assertEqual(answers(counters()), [1, -3])
        self.assertEqual(answers(setwork([1])), [1, -2])
        self.assertEqual(answers(setwork([], "x" * 16385)), [1, -1])
        self.assertEqual(answers(setwork([], "read\n")), [4, -6, 1, 0, 4])

    def test_all_calls_of_the_punches(self):
        self.assertEqual(ask(*PUNCH_CALLS), PUNCH_ANSWERS)

    def test_calls_that_use_no_punch_in_between(self):
        mixed = [call for pair in zip(PUNCH_CALLS, (CALLS[:4] + CALLS[5:]) * 3) for call in pair]
        self.assertEqual(ask(*mixed)[::2], PUNCH_ANSWERS)

    def test_100_calls_of_the_punches(self):
        # The first three are refused only as long as nothing is set up.
        rest = PUNCH_CALLS[3:]
        given = ask(*(rest * 6)[:100])
        self.assertEqual(given, (PUNCH_ANSWERS[3:] * 6)[:100])

    def test_longest_lists_of_calls_of_the_punches(self):
        full = [number for c in range(80) for number in (c, 4095)]
        calls = [setcopy("")] + [copy(full, full)] * 50
        self.assertEqual(ask(*calls), [[0]] + [[0, 0] + full] * 50)
        calls = [setwork(step(5) * 64)] + [work(full)] * 99
        self.assertEqual(ask(*calls), [[0]] + [[0] + full] * 99)

    def test_100_calls(self):
        given = ask(*[CALLS[k % len(CALLS)] for k in range(100)])
        self.assertEqual(given, [ask_one(CALLS[k % len(CALLS)]) for k in range(100)])

    def test_longest_list_of_calls(self):
        call = follow(0, 80, [0] * 1000)
        self.assertEqual(ask(*[call] * 16), [[0]] * 16)

    def test_what_is_handed_in_is_not_changed(self):
        calls = flat(CALLS + PUNCH_CALLS)
        before = list(calls)
        answers(calls)
        self.assertEqual(calls, before)

    def test_what_is_handed_in_is_not_changed_for_a_while_either(self):
        calls = flat(CALLS + PUNCH_CALLS)
        self.assertEqual(answers(ReadOnly(calls)), answers(calls))

    def test_nothing_is_kept(self):
        calls = flat(PUNCH_CALLS + CALLS)
        given = answers(calls)
        given_before = list(given)
        again = answers(calls)
        self.assertEqual(again, given_before)
        again.append(1)
        self.assertEqual(given, given_before)

    def test_no_punch_is_kept_from_one_time_to_the_next(self):
        for set_up in (setcopy(""), setwork([])):
            answers(set_up)
            for call in (copy([], []), work([]), counters()):
                self.assertEqual(answers(call), [1, -3])
        calls = flat([setcopy(GANG), copy([], [0, 5])])
        self.assertEqual(answers(calls), answers(calls))
        calls = flat([setwork(TOTAL), work([]), counters()])
        self.assertEqual(answers(calls), answers(calls))

    def test_whole_numbers_in_a_list(self):
        given = answers(flat(CALLS + PUNCH_CALLS))
        self.assertIs(type(given), list)
        self.assertEqual({type(number) for number in given}, {int})

    def test_a_number_that_is_no_calls(self):
        for number in (0, -1, 10):
            self.assertRaises(UnknownCall, answers, [number])


class SetcopyTest(unittest.TestCase):
    def call(self, desk, call):
        return answer_call(CallReader(call), desk)

    def test_none_is_set_up_at_first(self):
        self.assertIsNone(Desk().punch)

    def test_set_up_with_no_card_punched_before(self):
        desk = Desk()
        self.assertEqual(self.call(desk, setcopy("both 0 > to 1\nread 0 > one 0\n")), [0])
        self.assertEqual(desk.punch.panel, [(("read", 0), ("one", 0)), (("both", 0), ("to", 1))])
        self.assertEqual(desk.punch.last_card, [0] * 80)

    def test_set_up_anew(self):
        desk = Desk()
        self.call(desk, setcopy("read 0 > to 1\n"))
        desk.punch.last_card[3] = 5
        self.assertEqual(self.call(desk, setcopy("")), [0])
        self.assertEqual(desk.punch.panel, [])
        self.assertEqual(desk.punch.last_card, [0] * 80)

    def test_a_refusal_changes_nothing(self):
        desk = Desk()
        for text in ("x\n", "read 0 > to 0\n" * 2, "x" * 16385):
            self.call(desk, setcopy(text))
            self.assertIsNone(desk.punch)
        self.call(desk, setcopy("read 0 > to 1\n"))
        punch = desk.punch
        for text in ("x\n", "read 0 > to 0\n" * 2, "x" * 16385):
            self.assertLess(self.call(desk, setcopy(text))[0], 0)
            self.assertIs(desk.punch, punch)

    def test_other_calls_leave_it(self):
        desk = Desk()
        self.call(desk, setcopy("read 0 > to 1\n"))
        punch = desk.punch
        for call in CALLS[:4]:
            self.call(desk, call)
            self.assertIs(desk.punch, punch)

    def test_each_byte_may_be_handed_in(self):
        for sign in range(256):
            self.assertEqual(answers([5, 1, sign])[1], -6)
        self.assertEqual(answers([5, 0]), [1, 0])
        self.assertEqual(signs("\n"), [10])


class SetUpTest(unittest.TestCase):
    """What is set up stands till another one, of either sort, is."""

    def test_the_reproducing_punch_in_the_place_of_itself(self):
        given = ask(setcopy(GANG), copy([], [0, 5]), setcopy(GANG), copy([], []), setcopy("read 9 > to 9\n"),
                    copy([9, 7], []))
        self.assertEqual(given, [[0], [0, 0, 0, 5], [0], [0, 0], [0], [0, 0, 9, 7]])

    def test_the_calculating_punch_in_the_place_of_itself(self):
        given = ask(setwork(TOTAL), work([]), setwork(TOTAL), counters(), work([]), setwork(step(5, k=9, x=7)),
                    work([]), counters())
        self.assertEqual(given[:5], [[0], [0, 0, 4, 1, 16], [0], [0] * 9, [0, 0, 4, 1, 16]])
        self.assertEqual(given[5:], [[0], [0], [0, 0, 7, 0, 0, 0, 0, 0, 0]])

    def test_the_calculating_punch_in_the_place_of_the_reproducing_one(self):
        given = ask(setcopy(GANG), copy([], [0, 5]), setwork(TOTAL), copy([], []), work([]), counters())
        self.assertEqual(given[2:], [[0], [-3], [0, 0, 4, 1, 16], [0, 2, 0, 0, 0, 0, 0, 0, 0]])

    def test_the_reproducing_punch_in_the_place_of_the_calculating_one(self):
        given = ask(setwork(TOTAL), work([]), setcopy(GANG), work([]), counters(), copy([], [0, 5]), copy([], []))
        self.assertEqual(given[2:], [[0], [-3], [-3], [0, 0, 0, 5], [0, 0, 1, 5]])

    def test_there_and_back(self):
        given = ask(setcopy(GANG), copy([], [0, 5]), setwork([]), setcopy(GANG), copy([], []))
        self.assertEqual(given[4], [0, 0])
        given = ask(setwork(TOTAL), work([]), setcopy(GANG), setwork(TOTAL), counters(), work([]))
        self.assertEqual(given[4:], [[0] * 9, [0, 0, 4, 1, 16]])


if __name__ == "__main__":
    unittest.main()
