"""Point 3: place and its refusal; which words can be spoilt."""

import random
import unittest

from tests.helpers import about, ask, place, write, written
from tests.spoilt import random_program, spoilt_texts


class Numbers(unittest.TestCase):
    def test_first_and_last_words_of_several_functions(self):
        text = "fun one 1 = add a 1\nfun two 0 = 7\nfun three 2 = if less a b one a two"
        expected = [[0, 0, 1], [0, 1, 0], [0, 2, 1], [1, 0, 1], [2, 0, 1], [2, 1, 1], [2, 2, 1], [2, 3, 1],
                    [2, 4, 0], [2, 5, 1], [2, 6, 0], [-2]]
        self.assertEqual(about(text, *[place(i) for i in range(12)]), expected)

    def test_tests_between_functions_have_no_places(self):
        text = "test ab n = add a 1\nfun one 0 = 1\n\ntest bc n = one\n  fun   two 0  = head nil \ntest cd l = isnil a"
        self.assertEqual(about(text, *[place(i) for i in range(4)]), [[0, 0, 1], [1, 0, 0], [1, 1, 0], [-2]])

    def test_as_many_as_can_be(self):
        text = "".join(f"fun f{letter} 0 = 1\n" for letter in "abcdefg") + "fun fh 0 = " + "add 1 " * 11 + "1"
        self.assertEqual(about(text, place(6), place(7), place(29), place(30)),
                         [[6, 0, 1], [7, 0, 1], [7, 22, 1], [-2]])


class CanBeSpoilt(unittest.TestCase):
    def check(self, row, i, can):
        self.assertEqual(about(row, place(i)), [[0, i, can]], row)

    def test_numbers(self):
        for number in range(100):
            self.check(f"fun ff 0 = {number}", 0, 1)

    def test_handed_over(self):
        self.check("fun ff 1 = a", 0, 0)
        for word in "ab":
            self.check(f"fun ff 2 = {word}", 0, 1)
        for word in "abc":
            self.check(f"fun ff 3 = {word}", 0, 1)

    def test_operations(self):
        for words in ("add 1 1", "sub 1 1", "mul 1 1", "less 1 1", "same 1 1", "if 1 1 1", "unless 1 1 1"):
            self.check(f"fun ff 0 = {words}", 0, 1)
        for words in ("cons 1 nil", "head nil", "tail nil", "isnil nil", "nil"):
            self.check(f"fun ff 0 = {words}", 0, 0)

    def test_names(self):
        self.check("fun ff 1 = ff a", 0, 0)
        self.check("fun ff 0 = ff", 0, 0)
        self.assertEqual(about("fun ff 2 = b\nfun gg 2 = ff a b", place(1), place(2)), [[1, 0, 0], [1, 1, 1]])


class Refusals(unittest.TestCase):
    def test_no_such_place(self):
        self.assertEqual(ask(place(0), place(4294967295)), [[-2], [-2]])
        self.assertEqual(about("fun ff 0 = 1", place(0), place(1), place(30), place(4294967295)),
                         [[0, 0, 1], [-2], [-2], [-2]])

    def test_without_functions(self):
        self.assertEqual(about("test ab n = add 1 a", place(0)), [[-2]])

    def test_of_the_program_that_is_held(self):
        found = ask(write("fun ff 0 = add 1 1"), place(2), write("fun ff 1 = a"), place(0), place(1), write("no"), place(0))
        self.assertEqual(found, [[1, 0, 3], [0, 2, 1], [1, 0, 1], [0, 0, 0], [-2], [-1001], [0, 0, 0]])


class AgainstTheWords(unittest.TestCase):
    def test_many_programs(self):
        source = random.Random(3)
        for _ in range(300):
            text = random_program(source)
            if written(text)[0] < 0:
                continue
            expected = [[number, which, int(spoilt is not None)] for number, which, spoilt in spoilt_texts(text)]
            self.assertEqual(about(text, *[place(i) for i in range(len(expected) + 1)]), expected + [[-2]], text)


if __name__ == "__main__":
    unittest.main()
