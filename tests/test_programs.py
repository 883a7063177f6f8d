"""setwork: how a program is told, which steps are as they should be, and its panel."""

import random
import unittest

from tests.helper import ask, ask_one, copy, counters, program, setcopy, setwork, step, work

NUMBERS = ("op", "when", "hub", "k", "j", "c", "n", "s", "x")
USED = {0: "k c n", 1: "k j", 2: "k j", 3: "k j", 4: "k j s", 5: "k x", 6: "k j", 7: "k s", 8: "k s", 9: "k c n",
        10: "s"}
HUGE = 10 ** 18


def right_step(op, when=0, **numbers):
    """A step that is as it should be, with a field where the op uses one."""
    if op in (0, 9):
        numbers = {"c": 0, "n": 1, **numbers}
    return step(op, when, **numbers)


def bounds(op, when):
    """For each number of a step but op and when the least and the greatest that are as they should be."""
    used = USED[op].split()
    return {
        "hub": (0, 255) if when in (4, 5) else (0, 0),
        "k": (0, 15) if "k" in used else (0, 0),
        "j": (0, 15) if "j" in used or when in (1, 2, 3) else (0, 0),
        "c": (0, 79) if "c" in used else (0, 0),
        "n": (1, 18) if "n" in used else (0, 0),
        "s": (0, {4: 15, 7: 15, 8: 15, 10: 64}[op]) if "s" in used else (0, 0),
        "x": (-2 ** 31, 2 ** 31 - 1) if "x" in used else (0, 0),
    }


def in_words(numbers):
    """Whether a step's nine numbers are as they should be."""
    named = dict(zip(NUMBERS, numbers))
    if min(numbers[:8]) < 0 or named["op"] > 10 or named["when"] > 5:
        return False
    limits = bounds(named["op"], named["when"])
    if not all(least <= named[name] <= most for name, (least, most) in limits.items()):
        return False
    return named["op"] not in (0, 9) or named["c"] + named["n"] <= 80


class ProgramTest(unittest.TestCase):
    def assert_taken(self, *steps):
        self.assertEqual(ask_one(setwork(program(*steps))), [0], steps)

    def assert_refused(self, *steps):
        self.assertEqual(ask_one(setwork(program(*steps))), [-2], steps)


class StepTest(ProgramTest):
    def test_op_and_when(self):
        for op in range(11):
            for when in range(6):
                self.assert_taken(right_step(op, when))
            for when in (-1, 6, HUGE, -HUGE):
                self.assert_refused(right_step(op, when))
        for op in (-1, 11, HUGE, -HUGE):
            for when in (0, 5):
                self.assert_refused(step(op, when))
                self.assert_refused(step(op, when, n=1))

    def test_least_and_greatest_of_each_number_and_one_beyond_each(self):
        for op in range(11):
            for when in range(6):
                for name, (least, most) in bounds(op, when).items():
                    self.assert_taken(right_step(op, when, **{name: least}))
                    self.assert_taken(right_step(op, when, **{name: most}))
                    for wrong in (least - 1, most + 1, -HUGE, HUGE):
                        self.assert_refused(right_step(op, when, **{name: wrong}))

    def test_fields(self):
        for op in (0, 9):
            for c, n in ((0, 1), (0, 18), (79, 1), (62, 18), (61, 18), (78, 2), (63, 17)):
                self.assert_taken(step(op, c=c, n=n))
            for c, n in ((0, 0), (79, 2), (80, 1), (80, 0), (63, 18), (62, 19), (0, 19), (0, 80), (-1, 2), (5, -1)):
                self.assert_refused(step(op, c=c, n=n))

    def test_a_field_where_none_is_used(self):
        for op in (1, 2, 3, 4, 5, 6, 7, 8, 10):
            for c, n in ((0, 1), (1, 0), (1, 1)):
                self.assert_refused(step(op, c=c, n=n))

    def test_what_one_op_uses_another_one_does_not(self):
        self.assert_taken(step(4, k=15, j=15, s=15))
        self.assert_refused(step(3, k=15, j=15, s=1))
        self.assert_refused(step(7, k=15, j=1))
        self.assert_taken(step(7, 1, k=15, j=1))
        self.assert_refused(step(10, k=1))
        self.assert_refused(step(10, j=1))
        self.assert_taken(step(10, 3, j=15, s=64))
        self.assert_refused(step(5, x=1, s=1))
        self.assert_refused(step(6, x=-1))
        self.assert_refused(step(6, x=1))

    def test_below_0_where_x_alone_may_be(self):
        self.assert_taken(step(5, x=-1))
        for place in range(8):
            numbers = step(5, x=-1)
            numbers[place] -= 10
            self.assert_refused(numbers)

    def test_against_the_words(self):
        source = random.Random(12)
        values = (-1, 0, 0, 0, 1, 2, 5, 6, 15, 16, 18, 19, 62, 64, 65, 79, 80, 255, 256, 2 ** 31 - 1, 2 ** 31)
        taken = 0
        for turn in range(6000):
            op = source.randrange(11)
            numbers = right_step(op, source.randrange(6))
            for place in source.sample(range(9), source.randrange(4)):
                numbers[place] = source.choice(values)
            expected = [0] if in_words(numbers) else [-2]
            taken += expected == [0]
            self.assertEqual(ask_one(setwork(numbers)), expected, numbers)
        self.assertTrue(1000 < taken < 5000, taken)


class LengthTest(ProgramTest):
    def test_no_steps(self):
        self.assertEqual(ask(setwork([]), work([3, 5]), counters()), [[0], [0, 3, 5], [0] * 9])

    def test_not_by_nines(self):
        numbers = program(*[step(5, k=8, x=1)] * 3)
        for length in range(1, 27):
            expected = [0] if length in (9, 18) else [-2]
            self.assertEqual(ask_one(setwork(numbers[:length])), expected, length)

    def test_the_64th_and_the_65th_step(self):
        add = step(1, k=8, j=9)
        steps = [step(5, k=9, x=1)] + [add] * 63
        given = ask(setwork(program(*steps)), work([]), counters())
        self.assertEqual(given, [[0], [0], [0, 63, 1, 0, 0, 0, 0, 0, 0]])
        self.assert_refused(*steps, add)
        self.assert_refused(*[step(5)] * 1877)

    def test_numbers_that_are_too_many_or_not_by_nines_whatever_they_say(self):
        for many in (1, 8, 10, 577, 585, 16900):
            self.assertEqual(ask_one(setwork([0] * many)), [-2])
            self.assertEqual(ask_one(setwork([-HUGE] * many)), [-2])

    def test_one_wrong_step_anywhere(self):
        right = step(5, k=8, x=1)
        for many in (1, 2, 64):
            for place in {0, many // 2, many - 1}:
                steps = [right] * many
                steps[place] = step(5, k=16, x=1)
                self.assert_refused(*steps)


class RefusalTest(unittest.TestCase):
    def test_the_panel(self):
        self.assertEqual(ask_one(setwork([], "x" * 16385)), [-1])
        self.assertEqual(ask_one(setwork([], "x" * 16384)), [-6, 1, 0, 0])
        self.assertEqual(ask_one(setwork([], "read 0 > to 0")), [-6, 1, 0, 13])
        self.assertEqual(ask_one(setwork([], "read 0 > to 0\n" * 257)), [-6, 2, 256, 0])
        self.assertEqual(ask_one(setwork([], "read 0 > to 0\n" * 2)), [-6, 3, 1, 0])
        self.assertEqual(ask_one(setwork([], "read 0 > to 0\nupper 0 > split 0\n")), [-6, 4, 1, 0])
        self.assertEqual(ask_one(setwork([], "read 0 > to 0\n")), [0])

    def test_two_wrong_things_at_once(self):
        for wrong in ([1], step(11), step(5) * 65):
            self.assertEqual(ask_one(setwork(wrong, "x" * 16385)), [-2])
            self.assertEqual(ask_one(setwork(wrong, "x\n")), [-2])
            self.assertEqual(ask_one(setwork(wrong, "upper 0 > split 0\n")), [-2])

    def test_a_refused_call_between_two_that_are_not(self):
        steps = program(step(5, k=0, x=3), step(1, k=8, j=0))
        refused = {
            "no program": (setwork([1]), [-2]),
            "a step that is not as it should be": (setwork(step(11)), [-2]),
            "too long a panel": (setwork([], "x" * 16385), [-1]),
            "no panel": (setwork([], "x\n"), [-6, 1, 0, 0]),
            "no panel of the other punch": (setcopy("x\n"), [-6, 1, 0, 0]),
            "the other punch's card": (copy([], []), [-3]),
        }
        for why, (call, answer) in refused.items():
            with self.subTest(why):
                given = ask(setwork(steps), work([]), call, counters(), work([]), counters())
                self.assertEqual(given[2:], [answer, [0, 3] + [0] * 7, [0], [0, 6] + [0] * 7])

    def test_a_refusal_sets_nothing_up(self):
        for call in (setwork([1]), setwork([], "x\n"), setwork([], "x" * 16385)):
            self.assertEqual(ask(call, counters(), work([]))[1:], [[-3], [-3]])


if __name__ == "__main__":
    unittest.main()
