"""Point 2: reach, and which places a test comes to."""

import random
import unittest

from tests.helpers import Plain, about, ask, reach, written
from tests.test_run import random_text
from tests.test_test import VALUES


class Places(unittest.TestCase):
    def test_rising(self):
        text = "fun one 1 = add a 1\nfun two 1 = mul a 2\ntest ab n = less two a one a\ntest bc n = two a\ntest cd n = 1"
        self.assertEqual(about(text, reach(0), reach(1), reach(2)), [[6, 0, 1, 2, 3, 4, 5], [3, 3, 4, 5], [0]])

    def test_functions_that_functions_name(self):
        text = "fun one 1 = add a 1\nfun two 1 = one one a\ntest ab n = two a"
        self.assertEqual(about(text, reach(0)), [[6, 0, 1, 2, 3, 4, 5]])

    def test_only_what_is_come_to(self):
        text = "fun pick 2 = if a add b 1 sub b 1\ntest ab n = pick 1 a\ntest bc n = pick 0 a\ntest cd n = pick a a"
        self.assertEqual(about(text, reach(0), reach(1), reach(2)),
                         [[5, 0, 1, 2, 3, 4], [5, 0, 1, 5, 6, 7], [8, 0, 1, 2, 3, 4, 5, 6, 7]])

    def test_one_input_is_enough(self):
        text = "fun ff 1 = if less a 4 1 2\ntest ab n = ff a\ntest bc b = ff a\ntest cd nn = ff mul a b"
        self.assertEqual(about(text, reach(0), reach(1), reach(2)),
                         [[6, 0, 1, 2, 3, 4, 5], [5, 0, 1, 2, 3, 4], [6, 0, 1, 2, 3, 4, 5]])

    def test_inputs_without_a_value_and_behind_the_least(self):
        text = "fun ff 1 = if a add 1 head nil tail nil\ntest ab n = ff a"
        self.assertEqual(about(text, reach(0)), [[8, 0, 1, 2, 3, 4, 5, 6, 7]])
        text = "fun ff 1 = add head nil a\ntest ab n = ff a"
        self.assertEqual(about(text, reach(0)), [[3, 0, 1, 2]])

    def test_not_behind_100_steps(self):
        text = "fun ff 0 = add ff 1\ntest ab n = ff"
        self.assertEqual(about(text, reach(0)), [[2, 0, 1]])

    def test_a_tests_own_words_are_no_places(self):
        text = "test ab n = add a 1\nfun ff 0 = 5\ntest bc n = add ff a\nfun gg 0 = 6\ntest cd n = add gg ff"
        self.assertEqual(about(text, reach(0), reach(1), reach(2)), [[0], [1, 0], [2, 0, 1]])

    def test_against_recursion(self):
        source = random.Random(11)
        for _ in range(150):
            shapes, text = random_text(source)
            if written(text)[0] < 0:
                continue
            places = set()
            for first in VALUES[shapes[0]]:
                for second in VALUES[shapes[1]] if len(shapes) == 2 else [None]:
                    places |= Plain(text).run(0, [first, second])[3]
            self.assertEqual(about(text, reach(0)), [[len(places)] + sorted(places)], text)


class Refusals(unittest.TestCase):
    def test_no_such_test(self):
        self.assertEqual(ask(reach(0)), [[-2]])
        self.assertEqual(about("fun ff 0 = 1\ntest ab n = ff", reach(0), reach(1), reach(4294967295)),
                         [[1, 0], [-2], [-2]])


if __name__ == "__main__":
    unittest.main()
