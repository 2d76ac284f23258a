"""The interface: how calls and answers lie, and that nothing is changed or kept."""

import unittest

from spoiltplaces.testers import answers
from tests.helpers import ask, every, reach, run, run_raw, test, write

TEXT = "fun inc 1 = add a 1\ntest up n = less a inc a\ntest low l = isnil a"


class Lists(unittest.TestCase):
    def test_as_numbers(self):
        self.assertEqual(answers([2]), [1, 0])
        self.assertEqual(answers([1, 0]), [1, -2])
        self.assertEqual(answers([0, 0]), [3, 0, 0, 0])
        self.assertEqual(answers([0, 1, 256, 2]), [1, -1, 1, 0])
        self.assertEqual(answers([3, 0, 0, 4, 9, 3, 5, 2, 0, 0]), [1, -2, 1, -2, 1, -2])

    def test_several_calls_in_one_list(self):
        calls = write(TEXT) + test(0) + test(1) + every() + run(0, 8) + run(1, [3, 4]) + reach(0)
        self.assertEqual(answers(calls), [3, 1, 2, 3, 2, 1, 5, 6, 0, 0, 1, 1, 1, 0, 3, 1, 1, 0,
                                          4, 1, 7, 0, 1, 4, 1, 2, 0, 0, 4, 3, 0, 1, 2])

    def test_ahead_of_the_first_write(self):
        found = ask(every(), test(0), run_raw(0, []), reach(0), write(TEXT), every(), test(0))
        self.assertEqual(found, [[0], [-2], [-2], [-2], [1, 2, 3], [1, 1, 0], [1, 5]])

    def test_forty_calls(self):
        calls = [write(TEXT)] + [run(0, 1)] * 9 + [test(0), every(), reach(0)] * 10
        found = ask(*calls)
        self.assertEqual(found, [[1, 2, 3]] + [[1, 7, 0, 1]] * 9 + [[1, 5], [1, 1, 0], [3, 0, 1, 2]] * 10)

    def test_whole_numbers_in_a_list(self):
        given = answers(write(TEXT) + test(0) + test(1) + every() + run(0, 8) + run(1, []) + reach(0))
        self.assertIs(type(given), list)
        self.assertEqual({type(number) for number in given}, {int})

    def test_texts_as_long_as_may_be(self):
        calls = ([0, 700] + [10] * 700) * 20 + ([0, 600] + [10] * 600) * 20
        self.assertEqual(answers(calls), [1, -1] * 20 + [3, 0, 0, 0] * 20)


class NothingKept(unittest.TestCase):
    def test_handed_in_stays_and_asked_twice(self):
        calls = write(TEXT) + test(1) + run(1, [1, 2]) + write("no") + reach(0) + every()
        before = list(calls)
        first = answers(calls)
        self.assertEqual(calls, before)
        first_copy = list(first)
        first.append(5)
        self.assertEqual(answers(calls), first_copy)

    def test_a_new_house_each_time(self):
        answers(write(TEXT))
        self.assertEqual(answers([2, 1, 0]), [1, 0, 1, -2])


class Deep(unittest.TestCase):
    def test_nested_as_deep_as_can_be(self):
        self.assertEqual(ask(write("fun ff 0 = " + "add 1 " * 14 + "ff\ntest ab n = ff"), run(0, 0), reach(0)),
                         [[1, 1, 29], [0, 100, 3], [29] + list(range(29))])


if __name__ == "__main__":
    unittest.main()
