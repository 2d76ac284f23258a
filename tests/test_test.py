"""Point 2: test, and the order of a test's inputs; all."""

import unittest

from tests.helpers import about, ask, every, test, write

LISTS = [[], [0], [1], [2], [0, 0], [0, 1], [0, 2], [1, 0], [1, 1], [1, 2], [2, 0], [2, 1], [2, 2]]
VALUES = {"n": [0, 1, 2, 3, 4], "b": [0, 1], "l": LISTS}


def verdict(row):
    return about(row, test(0))[0]


def told(value):
    return [1, len(value)] + value if isinstance(value, list) else [0, value]


def expression(value):
    """Words that come to this value."""
    if isinstance(value, list):
        return "".join(f"cons {number} " for number in value) + "nil"
    return str(value)


class Holds(unittest.TestCase):
    def test_how_many_inputs(self):
        for first in VALUES:
            self.assertEqual(verdict(f"test ab {first} = 1"), [1, len(VALUES[first])])
            for second in VALUES:
                many = len(VALUES[first]) * len(VALUES[second])
                self.assertEqual(verdict(f"test ab {first}{second} = 1"), [1, many])

    def test_for_all(self):
        self.assertEqual(verdict("test ab n = less a 5"), [1, 5])
        self.assertEqual(verdict("test ab b = less a 2"), [1, 2])
        self.assertEqual(verdict("test ab nn = same add a b add b a"), [1, 25])


class Whys(unittest.TestCase):
    def test_something_else(self):
        self.assertEqual(verdict("test ab n = 0"), [0, 0, 0, 0, 0])
        self.assertEqual(verdict("test ab n = 2"), [0, 0, 0, 0, 0])
        self.assertEqual(verdict("test ab n = cons 1 nil"), [0, 0, 0, 0, 0])
        self.assertEqual(verdict("test ab n = nil"), [0, 0, 0, 0, 0])
        self.assertEqual(verdict("test ab n = less a 3"), [0, 0, 3, 0, 3])

    def test_no_value(self):
        self.assertEqual(verdict("test ab n = if less a 2 1 head a"), [0, 1, 2, 0, 2])
        self.assertEqual(verdict("test ab l = if same a cons 2 nil head nil 1"), [0, 2, 3, 1, 1, 2])
        self.assertEqual(verdict("fun ff 0 = ff\ntest ab n = if less a 4 1 ff"), [0, 3, 4, 0, 4])
        self.assertEqual(verdict("fun gg 1 = gg cons 1 a\ntest ab b = if a gg nil 1"), [0, 4, 1, 0, 1])

    def test_the_least_of_several(self):
        self.assertEqual(verdict("test ab n = if less a 2 1 if same a 2 nil head nil"), [0, 0, 2, 0, 2])


class Order(unittest.TestCase):
    def test_one_shape(self):
        for shape, values in VALUES.items():
            for ahead, value in enumerate(values):
                row = f"test ab {shape} = unless same a {expression(value)} 1 0"
                self.assertEqual(verdict(row), [0, 0, ahead] + told(value))

    def test_two_shapes(self):
        for first in VALUES:
            for second in VALUES:
                pairs = [(x, y) for x in range(len(VALUES[first])) for y in range(len(VALUES[second]))]
                pairs.sort(key=lambda pair: (pair[0] + pair[1], pair[0]))
                for ahead, (x, y) in enumerate(pairs):
                    one, other = VALUES[first][x], VALUES[second][y]
                    words = f"if same a {expression(one)} unless same b {expression(other)} 1 0 1"
                    self.assertEqual(verdict(f"test ab {first}{second} = {words}"),
                                     [0, 0, ahead] + told(one) + told(other))

    def test_pairs_told_by_hand(self):
        self.assertEqual(verdict("test ab nn = less add a b 1"), [0, 0, 1, 0, 0, 0, 1])
        self.assertEqual(verdict("test ab nn = less a 1"), [0, 0, 2, 0, 1, 0, 0])
        self.assertEqual(verdict("test ab nn = less mul a b 2"), [0, 0, 7, 0, 1, 0, 2])
        self.assertEqual(verdict("test ab bl = if a isnil b 1"), [0, 0, 4, 0, 1, 1, 1, 0])
        self.assertEqual(verdict("test ab lb = unless b isnil a 1"), [0, 0, 2, 1, 1, 0, 0, 0])


class Refusals(unittest.TestCase):
    def test_no_such_test(self):
        self.assertEqual(ask(test(0), test(4294967295)), [[-2], [-2]])
        self.assertEqual(about("test ab n = 1\ntest bc n = 0", test(1), test(2), test(3), test(4294967295)),
                         [[0, 0, 0, 0, 0], [-2], [-2], [-2]])

    def test_functions_are_not_tests(self):
        self.assertEqual(about("fun ab 0 = 1", test(0)), [[-2]])


class Every(unittest.TestCase):
    def test_no_tests(self):
        self.assertEqual(ask(every(), write("fun ab 0 = 1"), every()), [[0], [1, 0, 1], [0]])

    def test_some_hold(self):
        text = "test ab n = 1\ntest bc n = 0\nfun cd 0 = head nil\ntest de l = cd\ntest ef bb = less mul a b 2"
        self.assertEqual(about(text, every()), [[2, 1, 0, 0, 1]])

    def test_all_and_none_hold(self):
        self.assertEqual(about("test ab n = 1\ntest bc b = 1", every()), [[2, 1, 1]])
        self.assertEqual(about("test ab n = less 0 a\ntest bc b = a", every()), [[0, 0, 0]])


if __name__ == "__main__":
    unittest.main()
