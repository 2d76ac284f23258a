"""unseen and fewest: what no test sees, and the fewest tests that see as much as all of them."""

import random
import unittest

from tests.helpers import about, ask, every, fewest, sees, unseen, write, written
from tests.spoilt import fewest_of, random_program, sights

# Each of these functions has just one place, which the test that compares it sees.
ONES = "fun fa 0 = 1\nfun fb 0 = 2\nfun fc 0 = 3\nfun fd 0 = 4\n"
VALUE = {"fa": 1, "fb": 2, "fc": 3, "fd": 4}


def comparing(*rows):
    """A text with a test for each of these rows of names, that sees just the places of those."""
    text = ONES
    for name, row in zip(("ta", "tb", "tc", "td"), rows):
        words = "1"
        for function in row.split():
            words = f"if same {function} {VALUE[function]} {words} 0"
        text += f"test {name} b = {words}\n"
    return text


class Unseen(unittest.TestCase):
    def test_rising_and_just_those_that_can_be_spoilt(self):
        text = "fun ff 2 = if isnil nil add a 1 mul a 2\nfun gg 1 = a\nfun hh 0 = 7\ntest ta n = same ff a 0 add a gg 1"
        self.assertEqual(about(text, every(), sees(0), sees(3), sees(4), sees(5)), [[1, 1], [1, 0], [1, 0], [1, 0], [1, 0]])
        self.assertEqual(about(text, unseen()), [[4, 6, 7, 8, 10]])

    def test_none(self):
        self.assertEqual(about("fun ff 1 = add a 1\ntest ta n = same ff 1 2", unseen()), [[0]])
        self.assertEqual(about("fun ff 1 = cons head a tail a\ntest ta n = 1", unseen()), [[0]])

    def test_seen_by_any_test_is_enough(self):
        self.assertEqual(about(comparing("fa", "fc", "fa fc"), unseen()), [[2, 1, 3]])
        self.assertEqual(about(comparing("fd", "fc", "fb", "fa"), unseen()), [[0]])

    def test_without_tests(self):
        self.assertEqual(about("fun ff 1 = add a 1\nfun gg 2 = cons a b", unseen()), [[4, 0, 2, 4, 5]])

    def test_without_functions(self):
        self.assertEqual(about("test ta n = add a 1", unseen()), [[0]])
        self.assertEqual(about("", unseen()), [[0]])

    def test_ahead_of_the_first_write(self):
        self.assertEqual(ask(unseen()), [[0]])
        self.assertEqual(ask(write("no"), unseen()), [[-1001], [0]])

    def test_tests_that_do_not_hold(self):
        self.assertEqual(about("fun ff 0 = 1\ntest ta n = same ff 2\ntest tb n = same ff a", unseen()), [[1, 0]])

    def test_all_thirty_places(self):
        text = "fun ff 0 = " + "add 1 " * 14 + "1\nfun gg 0 = 5"
        self.assertEqual(about(text, unseen()), [[30] + list(range(30))])


class Fewest(unittest.TestCase):
    def test_none(self):
        self.assertEqual(ask(fewest()), [[0]])
        self.assertEqual(about("", fewest()), [[0]])
        self.assertEqual(about("fun ff 0 = 1", fewest()), [[0]])
        self.assertEqual(about("test ta n = 1", fewest()), [[0]])
        self.assertEqual(about("fun ff 0 = 1\ntest ta n = 1\ntest tb n = same ff 2", fewest()), [[0]])

    def test_one(self):
        self.assertEqual(about(comparing("fa"), fewest()), [[1, 0]])
        self.assertEqual(about(comparing("fa", "fa fb"), fewest()), [[1, 1]])
        self.assertEqual(about(comparing("fa", "fb", "fc", "fa fb fc"), fewest()), [[1, 3]])

    def test_the_first_of_one(self):
        self.assertEqual(about(comparing("fa", "fa", "fa"), fewest()), [[1, 0]])
        self.assertEqual(about(comparing("", "fa fb", "fb fa"), fewest()), [[1, 1]])

    def test_several(self):
        self.assertEqual(about(comparing("fa", "fb"), fewest()), [[2, 0, 1]])
        self.assertEqual(about(comparing("fa", "fa fb", "fb fc"), fewest()), [[2, 0, 2]])
        self.assertEqual(about(comparing("fa", "", "fb", "fc"), fewest()), [[3, 0, 2, 3]])
        self.assertEqual(about(comparing("fa", "fb", "fc", "fd"), fewest()), [[4, 0, 1, 2, 3]])

    def test_the_first_of_several(self):
        self.assertEqual(about(comparing("fa fb", "fb fc", "fc fa"), fewest()), [[2, 0, 1]])
        self.assertEqual(about(comparing("fa fb", "fc fd", "fb fc", "fd fa"), fewest()), [[2, 0, 1]])
        self.assertEqual(about(comparing("fa fb", "fb fc", "fc fd", "fd fa"), fewest()), [[2, 0, 2]])
        self.assertEqual(about(comparing("fa", "fb fc", "fc fd", "fa fb"), fewest()), [[2, 2, 3]])
        self.assertEqual(about(comparing("fa", "fb", "fc", "fc fb"), fewest()), [[2, 0, 3]])

    def test_the_one_that_sees_most_is_not_always_among_them(self):
        text = ("fun fa 0 = 1\nfun fb 0 = 2\nfun fc 0 = 3\nfun fd 0 = 4\nfun fe 0 = 5\nfun fg 0 = 6\n"
                "test ta n = less 20 add fa add fb add fc fd\ntest tb n = if same fa 1 if same fb 2 same fe 5 0 0\n"
                "test tc n = if same fc 3 if same fd 4 same fg 6 0 0\n"
                "test td n = if same fa 1 if same fb 2 if same fc 3 same fd 4 0 0 0")
        self.assertEqual(about(text, every(), fewest()), [[3, 0, 1, 1, 1], [2, 1, 2]])

    def test_tests_that_do_not_hold_are_not_among_them(self):
        text = "fun ff 0 = 1\ntest ta n = same ff 2\ntest tb n = same ff 1"
        self.assertEqual(about(text, fewest()), [[1, 1]])


class AgainstTheWords(unittest.TestCase):
    def test_many_programs(self):
        source = random.Random(13)
        sizes = {}
        for _ in range(500):
            text = random_program(source)
            if written(text)[0] < 0:
                continue
            seen = sights(text)
            few = fewest_of(seen, text.count("test"))
            none = [i for i, sight in enumerate(seen) if sight == []]
            sizes[len(few)] = True
            self.assertEqual(about(text, unseen()), [[len(none)] + none], text)
            self.assertEqual(about(text, fewest()), [[len(few)] + few], text)
        self.assertGreaterEqual(len(sizes), 3)

    def test_each_place_that_any_test_sees(self):
        source = random.Random(17)
        for _ in range(100):
            text = random_program(source)
            places = written(text)[2:3]
            if not places:
                continue
            few = about(text, fewest())[0]
            self.assertEqual(few[1:], sorted(set(few[1:])))
            for i in range(places[0]):
                seen = about(text, sees(i))[0]
                self.assertTrue(seen[0] <= 0 or set(seen[1:]) & set(few[1:]), text)


if __name__ == "__main__":
    unittest.main()
