"""Point 3: sees and its refusals; how each word is spoilt, and when a test sees a place."""

import random
import unittest

from tests.helpers import about, ask, every, fewest, place, reach, run, sees, test, unseen, write, written
from tests.spoilt import random_program, sights


class HowSpoilt(unittest.TestCase):
    def becomes(self, row, call, before, after, i=0):
        """What the call comes to as it is, and once place i is spoilt: the second test holds of just these two."""
        text = (f"{row}\ntest ta b = same {call} {before}\n"
                f"test tb b = if same {call} {before} 1 same {call} {after}")
        self.assertEqual(about(text, every(), sees(i)), [[2, 1, 1], [1, 0]], text)

    def test_numbers(self):
        for number in range(99):
            self.becomes(f"fun ff 0 = {number}", "ff", number, number + 1)

    def test_ninety_nine(self):
        self.becomes("fun ff 0 = 99", "ff", 99, 0)

    def test_handed_over_of_two(self):
        self.becomes("fun ff 2 = a", "ff 5 6", 5, 6)
        self.becomes("fun ff 2 = b", "ff 5 6", 6, 5)

    def test_handed_over_of_three(self):
        self.becomes("fun ff 3 = a", "ff 5 6 7", 5, 6)
        self.becomes("fun ff 3 = b", "ff 5 6 7", 6, 7)
        self.becomes("fun ff 3 = c", "ff 5 6 7", 7, 5)

    def test_add_and_sub(self):
        self.becomes("fun ff 2 = add a b", "ff 5 2", 7, 3)
        self.becomes("fun ff 2 = sub a b", "ff 5 2", 3, 7)
        self.becomes("fun ff 2 = sub a b", "ff 2 5", 0, 7)

    def test_mul(self):
        self.becomes("fun ff 2 = mul a b", "ff 5 2", 10, 7)

    def test_less_and_same(self):
        self.becomes("fun ff 2 = less a b", "ff 5 6", 1, 0)
        self.becomes("fun ff 2 = less a b", "ff 5 5", 0, 1)
        self.becomes("fun ff 2 = same a b", "ff 5 6", 0, 1)
        self.becomes("fun ff 2 = same a b", "ff 5 5", 1, 0)

    def test_less_and_same_alike_where_the_first_is_more(self):
        for word in ("less", "same"):
            self.assertEqual(about(f"fun ff 2 = {word} a b\ntest ta n = same ff 6 5 0", every(), sees(0)), [[1, 1], [0]])

    def test_if_and_unless(self):
        for condition in (0, 1, 9):
            self.becomes(f"fun ff 2 = if {condition} a b", "ff 5 6", 5 if condition else 6, 6 if condition else 5)
            self.becomes(f"fun ff 2 = unless {condition} a b", "ff 5 6", 6 if condition else 5, 5 if condition else 6)

    def test_just_that_word(self):
        row = "fun gg 2 = add a add a b\nfun ff 2 = add a gg 1 2"
        self.becomes(row, "ff 9 7", 13, 5, 5)
        self.becomes(row, "ff 9 7", 13, 11, 6)
        self.becomes(row, "ff 9 7", 13, 14, 1)
        self.becomes(row, "ff 9 7", 13, 12, 4)

    def test_each_time_that_it_is_come_to(self):
        self.becomes("fun ff 1 = add a 1", "ff ff ff 5", 8, 11, 2)

    def test_words_that_cannot_be(self):
        for words in ("cons 1 nil", "head cons 1 nil", "tail nil", "isnil nil", "nil", "a", "ff a"):
            self.assertEqual(about(f"fun ff 1 = {words}\ntest ta n = 1", sees(0)), [[-3]], words)


class Sees(unittest.TestCase):
    def test_rising(self):
        text = ("fun inc 1 = add a 1\ntest ta n = same inc a add a 1\ntest tb n = same inc 0 0\n"
                "test tc n = less a inc a\ntest td n = less a 5")
        self.assertEqual(about(text, every(), sees(0), sees(2)), [[3, 1, 0, 1, 1], [2, 0, 2], [1, 0]])

    def test_a_test_that_does_not_hold_sees_nothing(self):
        text = "fun ff 0 = 1\ntest ta n = same ff 2\ntest tb n = if less a 4 same ff 1 0"
        self.assertEqual(about(text, every(), sees(0)), [[0, 0, 0], [0]])

    def test_a_test_that_holds_only_once_spoilt(self):
        text = "fun ff 0 = 1\ntest ta n = same ff 2\ntest tb n = same ff 1"
        self.assertEqual(about(text, sees(0)), [[1, 1]])

    def test_a_place_that_no_test_comes_to(self):
        text = "fun ff 1 = if less a 5 1 add 2 3\nfun gg 0 = 4\ntest ta n = ff a\ntest tb n = 1"
        self.assertEqual(about(text, sees(5), sees(6), sees(7), sees(8), sees(4)), [[0], [0], [0], [0], [1, 0]])

    def test_a_place_that_is_come_to_and_not_seen(self):
        text = "fun ff 1 = if a 1 1\ntest ta n = ff a"
        self.assertEqual(about(text, reach(0), sees(0), sees(2), sees(3)), [[4, 0, 1, 2, 3], [0], [1, 0], [1, 0]])

    def test_one_input_is_enough(self):
        text = "fun ff 1 = same a 3\ntest ta n = if ff a same a 3 1\ntest tb nn = less ff mul a b 2\ntest tc b = less ff a 1"
        self.assertEqual(about(text, sees(0), sees(2)), [[2, 0, 2], [1, 0]])
        text = "fun ff 1 = less a 16\ntest ta nn = ff sub mul a b 1\ntest tb nn = same ff mul a b less mul a b 16"
        self.assertEqual(about(text, every(), sees(0), sees(2)), [[2, 1, 1], [2, 0, 1], [1, 1]])

    def test_no_value_once_spoilt(self):
        self.assertEqual(about("fun ff 1 = if isnil a 0 head a\ntest ta l = less ff a 3", sees(0)), [[1, 0]])
        self.assertEqual(about("fun ff 1 = same a a\ntest ta l = ff a", sees(0)), [[1, 0]])
        self.assertEqual(about("fun ff 1 = unless a 1 ff sub a 1\ntest ta n = ff a", sees(4)), [[1, 0]])
        self.assertEqual(about("fun ff 2 = isnil b\ntest ta n = ff a nil", sees(1)), [[1, 0]])
        grow = "fun up 1 = cons 1 cons 1 cons 1 cons 1 cons 1 a\nfun ff 1 = if 1 a cons 1 a\ntest ta n = head ff up up nil"
        self.assertEqual(about(grow, every(), sees(11), sees(12)), [[1, 1], [1, 0], [0]])

    def test_tests_words_are_not_spoilt(self):
        text = "test ta n = same 1 1\nfun ff 0 = 5\ntest tb n = same 5 ff"
        self.assertEqual(about(text, sees(0), sees(1)), [[1, 1], [-2]])

    def test_without_tests(self):
        self.assertEqual(about("fun ff 0 = 5", sees(0)), [[0]])


class Refusals(unittest.TestCase):
    def test_no_such_place(self):
        self.assertEqual(ask(sees(0), sees(4294967295)), [[-2], [-2]])
        self.assertEqual(about("test ta n = 1", sees(0)), [[-2]])
        self.assertEqual(about("fun ff 0 = 1", sees(0), sees(1), sees(4294967295)), [[0], [-2], [-2]])

    def test_no_such_place_is_ahead(self):
        self.assertEqual(about("fun ff 1 = head a", sees(0), sees(1), sees(2), sees(3)), [[-3], [-3], [-2], [-2]])


class AsItWas(unittest.TestCase):
    def test_the_program_stays(self):
        text = "fun ff 2 = if less a b add a 1 mul a 2\ntest ta nn = less a ff a b\ntest tb n = same 1 ff 0 a\ntest tc n = 1"
        asked = [every(), test(0), run(0, 3, 9), reach(0), reach(1)] + [place(i) for i in range(10)]
        for call in [sees(i) for i in range(10)] + [unseen(), fewest()]:
            found = about(text, *asked, call, *asked, call) if call[0] == 6 else about(text, *asked, call, *asked)
            many = len(asked)
            self.assertEqual(found[:many], found[many + 1:2 * many + 1])
            self.assertEqual(found[2 * many + 1:], found[many:many + 1] if call[0] == 6 else [])

    def test_of_the_program_that_is_held(self):
        found = ask(write("fun ff 0 = 1\ntest ta n = ff"), sees(0), write("no"), sees(0),
                    write("fun ff 0 = 2\ntest ta n = ff"), sees(0), write(""), sees(0))
        self.assertEqual(found, [[1, 1, 1], [1, 0], [-1001], [1, 0], [1, 1, 1], [0], [0, 0, 0], [-2]])


class AgainstTheWords(unittest.TestCase):
    def test_many_programs(self):
        source = random.Random(5)
        seen = 0
        for _ in range(400):
            text = random_program(source)
            if written(text)[0] < 0:
                continue
            expected = [[-3] if sight is None else [len(sight)] + sight for sight in sights(text)] + [[-2]]
            seen += sum(answer[0] > 0 for answer in expected)
            for i in range(0, len(expected), 6):
                some = range(i, min(i + 6, len(expected)))
                self.assertEqual(about(text, *[sees(i) for i in some]), [expected[i] for i in some], text)
        self.assertGreater(seen, 300)


if __name__ == "__main__":
    unittest.main()
