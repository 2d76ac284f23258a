"""Point 1: write and its refusals; the text's rows, words, names, expressions and faults."""

import unittest

from tests.helpers import about, ask, every, reach, run, test, write, written

GOOD = "fun inc 1 = add a 1\ntest up n = less a inc a"


def fault(row, number):
    return [-1000 - 10 * row - number]


class Counts(unittest.TestCase):
    def test_functions_tests_places(self):
        self.assertEqual(written(GOOD), [1, 1, 3])
        self.assertEqual(written("fun aa 0 = 1\nfun bb 2 = add b aa\ntest cc nl = 1"), [2, 1, 4])

    def test_nothing_told(self):
        for text in ("", "\n", "   ", "\n  \n\n "):
            self.assertEqual(written(text), [0, 0, 0])

    def test_blanks_anywhere(self):
        self.assertEqual(written("  fun   aa  0  =   1  \n\n   \n test bb b =  aa "), [1, 1, 1])

    def test_rows_without_words_are_numbered(self):
        self.assertEqual(written("\n  \nfun aa 0 = 1\n\nno"), fault(4, 1))

    def test_all_numbers_and_names_of_all_lengths(self):
        for number in list(range(10)) + [10, 42, 99]:
            self.assertEqual(written(f"fun ab 0 = {number}"), [1, 0, 1])
        self.assertEqual(written("fun abcdefgh 0 = 1\ntest az n = 1"), [1, 1, 1])

    def test_every_k_and_every_shape(self):
        for many in range(4):
            self.assertEqual(written(f"fun ab {many} = 7"), [1, 0, 1])
        for first in "nlb":
            for second in ("", "n", "l", "b"):
                self.assertEqual(written(f"test ab {first}{second} = 7"), [0, 1, 0])


class NotGranted(unittest.TestCase):
    def test_just_600_bytes(self):
        self.assertEqual(written(GOOD + " " * (600 - len(GOOD))), [1, 1, 3])

    def test_more_than_600_bytes(self):
        self.assertEqual(written(GOOD + " " * (601 - len(GOOD))), [-1])
        self.assertEqual(written([32] * 700), [-1])

    def test_a_byte_above_255(self):
        for byte in (256, 288, 4294967295):
            self.assertEqual(written(list(GOOD.encode()) + [byte]), [-1])

    def test_not_granted_is_ahead_of_faults(self):
        self.assertEqual(written([110, 111, 10, 256]), [-1])
        self.assertEqual(written([110] * 601), [-1])

    def test_byte_255_is_just_a_fault(self):
        self.assertEqual(written([255]), fault(0, 1))

    def test_a_row_at_fault_far_down(self):
        self.assertEqual(written("\n" * 599 + "x"), fault(599, 1))


class FaultOne(unittest.TestCase):
    def test_first_word(self):
        for text in ("fan ab 1 = 1", "tests ab n = 1", "ab", "=", "FUN ab 1 = 1", "funab 1 = 1"):
            self.assertEqual(written(text), fault(0, 1))

    def test_too_few_words(self):
        for text in ("fun", "fun ab", "fun ab 1", "test", "test ab", "test ab n"):
            self.assertEqual(written(text), fault(0, 1))

    def test_k(self):
        for many in ("4", "9", "10", "00", "01", "03", "a", "n", "-1", "+1", "1.", "="):
            self.assertEqual(written(f"fun ab {many} = 1"), fault(0, 1))

    def test_shapes(self):
        for shapes in ("x", "nnn", "nx", "1", "N", "nlb", "="):
            self.assertEqual(written(f"test ab {shapes} = 1"), fault(0, 1))

    def test_equals_sign(self):
        for text in ("fun ab 1 1", "fun ab 1 == 1", "fun ab 1 1 =", "test ab n =1", "test ab n a = 1"):
            self.assertEqual(written(text), fault(0, 1))

    def test_only_blanks_tell_words_apart(self):
        for text in ("fun\tab 1 = 1", "fun ab 1 = 1\r\nfun", "fun\0ab 0 = 1", "fun\xa0ab 0 = 1", "fun\x0bab 0 = 1"):
            self.assertIn(written(text), (fault(0, 1), fault(0, 3)))
        self.assertEqual(written("fun ab 0 = 1\r"), fault(0, 3))
        self.assertEqual(written("fun ab 0 = add\t1 1"), fault(0, 3))


class Bytes(unittest.TestCase):
    def test_each_byte_in_a_name(self):
        for byte in range(256):
            if byte not in (10, 32):
                expected = [1, 0, 1] if 97 <= byte <= 122 else fault(0, 2)
                self.assertEqual(written(list(b"fun q") + [byte] + list(b" 0 = 1")), expected, byte)

    def test_each_byte_as_a_word(self):
        for byte in range(256):
            good = 48 <= byte <= 57 or byte in (97, 98, 99)
            missing = byte in (10, 32)
            expected = fault(0, 4) if missing else [1, 0, 1] if good else fault(0, 3)
            self.assertEqual(written(list(b"fun qq 3 = ") + [byte]), expected, byte)

    def test_each_byte_between_words(self):
        for byte in range(256):
            expected = [1, 0, 3] if byte == 32 else fault(0, 4) if byte == 10 else fault(0, 3)
            self.assertEqual(written(list(b"fun qq 3 = add") + [byte] + list(b"1 a")), expected, byte)

    def test_each_byte_as_the_equals_sign(self):
        for byte in range(256):
            expected = [1, 0, 1] if byte == 61 else fault(0, 1)
            self.assertEqual(written(list(b"fun qq 3 ") + [byte] + list(b" 1")), expected, byte)


class FaultTwo(unittest.TestCase):
    def test_no_name(self):
        words = ("a", "x", "abcdefghi", "Ab", "a1", "1", "12", "a_b", "fun", "test", "=", "a\xe4", "n\0")
        for name in words + ("add", "sub", "mul", "less", "same", "cons", "if", "unless"):
            self.assertEqual(written(f"fun {name} 0 = 1"), fault(0, 2), name)
        for name in ("head", "tail", "isnil", "nil", "q"):
            self.assertEqual(written(f"test {name} n = 1"), fault(0, 2), name)

    def test_stands_ahead(self):
        first = ("fun ab 0 = 1", "test ab n = 1")
        second = ("fun ab 1 = 1", "test ab l = 1")
        for one in first:
            for other in second:
                self.assertEqual(written(one + "\n" + other), fault(1, 2))

    def test_names_that_hold_other_words(self):
        self.assertEqual(written("fun adds 0 = 1\nfun tests 0 = adds\nfun funs 0 = tests\nfun bc 0 = funs"), [4, 0, 4])


class FaultThree(unittest.TestCase):
    def test_words_without_meaning(self):
        for word in ("00", "01", "100", "-1", "zz", "d", "A", "=", "fun", "test", "n", "l", "+", "\xff", "1\xb2"):
            self.assertEqual(written(f"fun ab 3 = {word}"), fault(0, 3), word)

    def test_handed_over_just_as_many(self):
        for many in range(4):
            for place, word in enumerate("abc"):
                expected = [1, 0, 1] if place < many else fault(0, 3)
                self.assertEqual(written(f"fun ff {many} = {word}"), expected)
        for shapes in ("n", "lb"):
            for place, word in enumerate("abc"):
                expected = [0, 1, 0] if place < len(shapes) else fault(0, 3)
                self.assertEqual(written(f"test ff {shapes} = {word}"), expected)

    def test_functions_told_behind(self):
        self.assertEqual(written("fun ab 0 = bc\nfun bc 0 = 1"), fault(0, 3))
        self.assertEqual(written("test ab n = bc\nfun bc 0 = 1"), fault(0, 3))

    def test_its_own_name(self):
        self.assertEqual(written("fun ab 1 = ab a"), [1, 0, 2])
        self.assertEqual(written("test ab n = ab"), fault(0, 3))

    def test_a_tests_name(self):
        self.assertEqual(written("test ab n = 1\nfun bc 0 = ab"), fault(1, 3))
        self.assertEqual(written("test ab n = 1\ntest bc n = ab"), fault(1, 3))

    def test_part_of_what_is_handed_over(self):
        self.assertEqual(written("fun ff 3 = ab"), fault(0, 3))
        self.assertEqual(written("fun ff 3 = abc"), fault(0, 3))


class FaultFour(unittest.TestCase):
    def test_not_just_one_expression(self):
        for words in ("", "add", "add 1", "1 2", "add 1 1 1", "if 1 2", "nil nil", "head", "1 add", "cons 1 nil tail",
                      "unless 1 1 1 1", "add add 1 1", "ff", "ff ff"):
            self.assertEqual(written(f"fun ff 1 = {words}"), fault(0, 4), words)

    def test_a_functions_parts(self):
        told = "fun zero 0 = 1\nfun one 1 = a\nfun two 2 = b\nfun three 3 = c\ntest xx n = "
        for words in ("zero", "one 1", "two 1 2", "three 1 2 3", "three two 1 2 one zero zero"):
            self.assertEqual(written(told + words), [4, 1, 4])
        for words in ("zero 1", "one", "one 1 1", "two 1", "three 1 2", "three 1 2 3 4"):
            self.assertEqual(written(told + words), fault(4, 4), words)


def functions(many):
    return "".join(f"fun ff{letter} 0 = 1\n" for letter in "abcdefghij"[:many])


def tests(many):
    return "".join(f"test tt{letter} n = 1\n" for letter in "abcdefghij"[:many])


def chain(many):
    """An expression of an odd number of words."""
    return "add 1 " * (many // 2) + "1"


class FaultFive(unittest.TestCase):
    def test_functions(self):
        self.assertEqual(written(functions(8)), [8, 0, 8])
        self.assertEqual(written(functions(9)), fault(8, 5))

    def test_tests(self):
        self.assertEqual(written(tests(4)), [0, 4, 0])
        self.assertEqual(written(tests(5)), fault(4, 5))

    def test_both_full(self):
        self.assertEqual(written(functions(8) + tests(4)), [8, 4, 8])
        self.assertEqual(written(tests(4) + functions(8)), [8, 4, 8])

    def test_functions_words_together(self):
        self.assertEqual(written(f"fun ab 0 = {chain(29)}\nfun bc 0 = 1"), [2, 0, 30])
        self.assertEqual(written(f"fun ab 0 = head nil\nfun bc 0 = {chain(29)}"), fault(1, 5))
        self.assertEqual(written(f"fun ab 0 = {chain(29)}\n\nfun bc 0 = 1\nfun cd 0 = 1"), fault(3, 5))
        self.assertEqual(written(f"fun ab 0 = {chain(31)}"), fault(0, 5))

    def test_a_tests_words(self):
        even = "isnil tail cons 1 nil"
        self.assertEqual(written(f"test ab n = add {chain(13)} head {even}"), [0, 1, 0])
        self.assertEqual(written(f"test ab n = {chain(21)}"), fault(0, 5))
        long = f"n = {chain(19)}\n"
        self.assertEqual(written("".join(f"test t{letter} {long}" for letter in "abcd")), [0, 4, 0])

    def test_tests_words_dont_count_as_functions(self):
        self.assertEqual(written(f"test ab n = {chain(19)}\nfun bc 0 = {chain(29)}"), [1, 1, 29])


class FirstFault(unittest.TestCase):
    def test_lesser_number_first(self):
        self.assertEqual(written("fun add 7 = zz zz"), fault(0, 1))
        self.assertEqual(written("fun add 1 = zz zz"), fault(0, 2))
        self.assertEqual(written("fun add 1 ="), fault(0, 2))
        self.assertEqual(written("fun ab 1 = 1 zz"), fault(0, 3))
        self.assertEqual(written("fun ab 1 = add zz"), fault(0, 3))
        self.assertEqual(written(f"fun ab 1 = {chain(31)} 1"), fault(0, 4))
        self.assertEqual(written(functions(8) + "fun ffa 0 = 1"), fault(8, 2))
        self.assertEqual(written(functions(8) + "fun xx 0 = a"), fault(8, 3))
        self.assertEqual(written(functions(8) + "fun xx 0 ="), fault(8, 4))

    def test_first_row(self):
        self.assertEqual(written(f"fun ab 0 = 1\ntest bc n = {chain(21)}\nno"), fault(1, 5))
        self.assertEqual(written("fun ab 0 = 1 1\nfun ab 0 = 1"), fault(0, 4))


class RefusedWrites(unittest.TestCase):
    def test_all_is_as_it_was(self):
        calls = [test(0), every(), run(0, 7), reach(0), test(1)]
        expected = about(GOOD, *calls)
        for text in ([256], [32] * 601, "no", "fun add 0 = 1", "fun ab 0 = zz", "fun ab 0 = add", tests(5)):
            self.assertEqual(about(GOOD, write(text), *calls)[1:], expected)

    def test_rows_ahead_of_the_fault_are_not_held(self):
        self.assertEqual(ask(write("test ab n = 1\nno"), every()), [fault(1, 1), [0]])

    def test_a_good_write_takes_the_place_of_the_one_ahead(self):
        found = about(GOOD, write("test xx b = 0\ntest yy b = 1"), every(), test(0), reach(1), write(""), every(), test(0))
        self.assertEqual(found, [[0, 2, 0], [1, 0, 1], [0, 0, 0, 0, 0], [0], [0, 0, 0], [0], [-2]])

    def test_names_are_free_in_the_next_text(self):
        self.assertEqual(ask(write(GOOD), write(GOOD)), [[1, 1, 3], [1, 1, 3]])
        self.assertEqual(ask(write(GOOD), write("test xx n = inc a")), [[1, 1, 3], fault(0, 3)])


if __name__ == "__main__":
    unittest.main()
