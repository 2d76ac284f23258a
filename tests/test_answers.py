"""The interface: how calls and answers lie, and that nothing is changed or kept."""

import random
import unittest

from spoiltplaces.testers import answers
from tests.helpers import ask, every, fewest, place, reach, run, run_raw, sees, test, touched, unseen, write

TEXT = "fun inc 1 = add a 1\ntest up n = less a inc a\ntest low l = isnil a"


class Lists(unittest.TestCase):
    def test_as_numbers(self):
        self.assertEqual(answers([2]), [1, 0])
        self.assertEqual(answers([1, 0]), [1, -2])
        self.assertEqual(answers([0, 0]), [3, 0, 0, 0])
        self.assertEqual(answers([0, 1, 256, 2]), [1, -1, 1, 0])
        self.assertEqual(answers([3, 0, 0, 4, 9, 3, 5, 2, 0, 0]), [1, -2, 1, -2, 1, -2])

    def test_several_calls_in_one_list(self):
        calls = write(TEXT) + test(0) + test(1) + every() + run(0, 8) + run(1, [3, 4]) + reach(0)
        self.assertEqual(answers(calls), [3, 1, 2, 3, 2, 1, 5, 6, 0, 0, 1, 1, 1, 0, 3, 1, 1, 0,
                                          4, 1, 7, 0, 1, 4, 1, 2, 0, 0, 4, 3, 0, 1, 2])

    def test_the_calls_5_to_9_as_numbers(self):
        self.assertEqual(answers([5, 0]), [1, -2])
        self.assertEqual(answers([6, 0]), [1, -2])
        self.assertEqual(answers([7]), [1, 0])
        self.assertEqual(answers([8]), [1, 0])
        self.assertEqual(answers([9]), [1, -3])
        self.assertEqual(answers([9, 6, 9, 7, 5, 8, 0, 0, 9]), [1, -3, 1, -2, 1, 0, 1, -2, 3, 0, 0, 0, 1, 0])

    def test_all_calls_in_one_list(self):
        calls = touched() + write(TEXT) + place(2) + sees(0) + sees(1) + sees(2) + sees(3) + unseen() + touched()
        self.assertEqual(answers(calls), [1, -3, 3, 1, 2, 3, 3, 0, 2, 1, 2, 1, 0, 1, -3, 1, 0, 1, -2, 2, 1, 2, 3, 2, 0, 1])
        calls = fewest() + write(TEXT) + sees(0) + write("no") + touched() + every() + write(TEXT) + reach(0) + touched()
        self.assertEqual(answers(calls), [1, 0, 3, 1, 2, 3, 2, 1, 0, 1, -1001, 3, 2, 0, 1, 3, 1, 1, 0, 3, 1, 2, 3,
                                          4, 3, 0, 1, 2, 1, 0])

    def test_calls_in_any_order(self):
        asked = [test(0), every(), run(0, 3), reach(0), place(0), sees(0), unseen(), touched(), sees(2), place(7)]
        expected = [[1, 5], [1, 1, 0], [1, 7, 0, 1], [3, 0, 1, 2], [0, 0, 1], [1, 0], [1, 2], [2, 0, 1], [0], [-2]]
        source = random.Random(23)
        for _ in range(50):
            order = source.sample(range(len(asked)), len(asked))
            found = ask(write(TEXT), *[asked[k] for k in order])
            self.assertEqual(found[1:], [expected[k] for k in order])

    def test_ahead_of_the_first_write(self):
        found = ask(every(), test(0), run_raw(0, []), reach(0), write(TEXT), every(), test(0))
        self.assertEqual(found, [[0], [-2], [-2], [-2], [1, 2, 3], [1, 1, 0], [1, 5]])
        found = ask(place(0), sees(0), touched(), fewest(), write(TEXT), place(0), sees(0), touched())
        self.assertEqual(found, [[-2], [-2], [-3], [0], [1, 2, 3], [0, 0, 1], [1, 0], [2, 0, 1]])

    def test_forty_calls(self):
        calls = [write(TEXT)] + [run(0, 1)] * 9 + [test(0), every(), reach(0)] * 10
        found = ask(*calls)
        self.assertEqual(found, [[1, 2, 3]] + [[1, 7, 0, 1]] * 9 + [[1, 5], [1, 1, 0], [3, 0, 1, 2]] * 10)

    def test_as_many_of_each_as_may_be(self):
        calls = [write(TEXT), write(TEXT)] + [sees(0)] * 6 + [fewest()] + [every()] * 30 + [touched()]
        found = ask(*calls)
        self.assertEqual(found, [[1, 2, 3]] * 2 + [[1, 0]] * 6 + [[1, 0]] + [[1, 1, 0]] * 30 + [[0]])

    def test_whole_numbers_in_a_list(self):
        given = answers(write(TEXT) + test(0) + test(1) + every() + run(0, 8) + run(1, []) + reach(0)
                        + place(0) + place(1) + sees(0) + sees(1) + unseen() + touched() + fewest())
        self.assertIs(type(given), list)
        self.assertEqual({type(number) for number in given}, {int})

    def test_texts_as_long_as_may_be(self):
        calls = ([0, 700] + [10] * 700) * 20 + ([0, 600] + [10] * 600) * 20
        self.assertEqual(answers(calls), [1, -1] * 20 + [3, 0, 0, 0] * 20)


class NothingKept(unittest.TestCase):
    def test_handed_in_stays_and_asked_twice(self):
        calls = write(TEXT) + test(1) + run(1, [1, 2]) + write("no") + reach(0) + every()
        calls = calls + place(0) + sees(0) + fewest() + touched() + write(TEXT) + touched()
        before = list(calls)
        first = answers(calls)
        self.assertEqual(calls, before)
        first_copy = list(first)
        first.append(5)
        self.assertEqual(answers(calls), first_copy)

    def test_a_new_house_each_time(self):
        answers(write(TEXT))
        self.assertEqual(answers([2, 1, 0]), [1, 0, 1, -2])
        self.assertEqual(answers([5, 0, 6, 0, 7, 9]), [1, -2, 1, -2, 1, 0, 1, -3])


class Deep(unittest.TestCase):
    def test_nested_as_deep_as_can_be(self):
        self.assertEqual(ask(write("fun ff 0 = " + "add 1 " * 14 + "ff\ntest ab n = ff"), run(0, 0), reach(0)),
                         [[1, 1, 29], [0, 100, 3], [29] + list(range(29))])

    def test_spoilt_as_deep_as_can_be(self):
        text = "fun ff 1 = unless a 1 ff " + "add 0 " * 11 + "sub a 1\ntest ab n = if less a 2 ff a 1"
        found = ask(write(text), every(), sees(0), sees(26), unseen())
        self.assertEqual(found, [[1, 1, 29], [1, 1], [1, 0], [1, 0], [12] + list(range(4, 25, 2)) + [28]])


if __name__ == "__main__":
    unittest.main()
