"""Point 3: touched and its refusal; which tests a change can touch."""

import random
import unittest

from tests.helpers import ask, every, reach, test, touched, write, written
from tests.spoilt import random_program, touched_by

TEXT = ("fun one 1 = add a 1\nfun two 1 = one one a\nfun far 0 = 5\n"
        "test ta n = less a two a\ntest tb n = same far 5\ntest tc b = less a 2")


def change(*texts):
    """What touched answers behind writes of these."""
    found = ask(*[write(text) for text in texts], touched())
    assert all(answer[0] >= 0 for answer in found[:-1]), found
    return found[-1]


class First(unittest.TestCase):
    def test_no_program_was_written(self):
        self.assertEqual(ask(touched()), [[-3]])
        self.assertEqual(ask(every(), test(0), touched(), touched()), [[0], [-2], [-3], [-3]])

    def test_a_refused_write_is_none(self):
        self.assertEqual(ask(write("no"), touched(), write([256]), touched()), [[-1001], [-3], [-1], [-3]])
        self.assertEqual(ask(write(TEXT + "\nno"), touched()), [[-1061], [-3]])

    def test_behind_the_first_write(self):
        self.assertEqual(change(TEXT), [3, 0, 1, 2])
        self.assertEqual(change("fun one 0 = 1"), [0])
        self.assertEqual(change(""), [0])


class Same(unittest.TestCase):
    def test_the_same_text(self):
        self.assertEqual(change(TEXT, TEXT), [0])
        self.assertEqual(change("", ""), [0])

    def test_other_blanks(self):
        other = "\n  " + TEXT.replace(" ", "   ").replace("\n", "  \n\n \n ") + "\n\n"
        self.assertEqual(change(TEXT, other), [0])
        self.assertEqual(change(other, TEXT), [0])

    def test_rows_in_another_order(self):
        rows = TEXT.split("\n")
        for order in ((2, 0, 1, 5, 4, 3), (5, 0, 1, 3, 2, 4), (0, 2, 1, 4, 5, 3), (0, 1, 3, 5, 2, 4)):
            other = "\n".join(rows[k] for k in order)
            self.assertEqual(change(TEXT, other), [0])
            self.assertEqual(change(other, TEXT), [0])

    def test_fewer_tests(self):
        rows = TEXT.split("\n")
        self.assertEqual(change(TEXT, "\n".join(rows[:4])), [0])
        self.assertEqual(change(TEXT, "\n".join(rows[:3])), [0])
        self.assertEqual(change(TEXT, ""), [0])


class ChangedTests(unittest.TestCase):
    def test_an_expression(self):
        self.assertEqual(change(TEXT, TEXT.replace("same far 5", "same 5 far")), [1, 1])
        self.assertEqual(change(TEXT, TEXT.replace("less a 2", "less a 3")), [1, 2])

    def test_a_name(self):
        self.assertEqual(change(TEXT, TEXT.replace("test tb", "test tz")), [1, 1])

    def test_shapes(self):
        self.assertEqual(change(TEXT, TEXT.replace("tc b", "tc n")), [1, 2])
        self.assertEqual(change(TEXT, TEXT.replace("tc b", "tc bb")), [1, 2])

    def test_names_swapped(self):
        self.assertEqual(change("test ta n = 1\ntest tb n = 2", "test tb n = 1\ntest ta n = 2"), [2, 0, 1])

    def test_a_new_test(self):
        self.assertEqual(change(TEXT, "test td n = 1\n" + TEXT), [1, 0])
        self.assertEqual(change(TEXT, TEXT + "\ntest td n = 1"), [1, 3])

    def test_numbers_of_the_program_now(self):
        self.assertEqual(change("test ta n = 1\ntest tb n = 1", "test tb n = 1\ntest tc n = 1\ntest ta n = 0"), [2, 1, 2])

    def test_words_cut_elsewhere(self):
        old = "fun ab 0 = 1\nfun abc 0 = 1\ntest ta n = ab"
        self.assertEqual(change(old, old.replace("= ab", "= abc")), [1, 0])
        self.assertEqual(change("test ta n = 11", "test ta n = add 1 1"), [1, 0])


class ChangedFunctions(unittest.TestCase):
    def test_named_in_the_test(self):
        self.assertEqual(change(TEXT, TEXT.replace("far 0 = 5", "far 0 = 6")), [1, 1])
        self.assertEqual(change(TEXT, TEXT.replace("two 1 = one one a", "two 1 = one a")), [1, 0])

    def test_only_through_other_functions(self):
        self.assertEqual(change(TEXT, TEXT.replace("add a 1", "add 1 a")), [1, 0])
        text = "fun fa 0 = 1\nfun fb 0 = fa\nfun fc 0 = fb\nfun fd 0 = fc\nfun fe 0 = 1\ntest ta n = fd\ntest tb n = fe"
        for row in text.split("\n")[:4]:
            self.assertEqual(change(text, text.replace(row, row.replace("= ", "= add 0 "))), [1, 0])

    def test_through_the_second_of_several(self):
        text = "fun fa 0 = 1\nfun fb 0 = 2\nfun fc 0 = add fa fb\nfun fd 0 = add 1 fc\ntest ta n = add fa fd\ntest tb n = fa"
        self.assertEqual(change(text, text.replace("fb 0 = 2", "fb 0 = 3")), [1, 0])
        self.assertEqual(change(text, text.replace("fa 0 = 1", "fa 0 = 3")), [2, 0, 1])

    def test_not_come_by(self):
        text = TEXT + "\nfun gg 0 = 1"
        self.assertEqual(change(text, TEXT + "\nfun gg 0 = 2"), [0])
        self.assertEqual(change(TEXT, text), [0])
        self.assertEqual(change(text, TEXT), [0])

    def test_a_function_that_names_a_changed_one_is_not_come_by(self):
        text = "fun fa 0 = 1\nfun fb 0 = add fa 1\ntest ta n = fa\ntest tb n = fb"
        self.assertEqual(change(text, text.replace("add fa 1", "add 1 fa")), [1, 1])

    def test_comes_by_even_if_not_come_to(self):
        text = "fun fa 0 = 1\ntest ta n = if 1 1 fa"
        self.assertEqual(change(text, text.replace("0 = 1", "0 = 2")), [1, 0])

    def test_how_many_are_handed_over(self):
        text = "fun fa 0 = 1\nfun fb 0 = fa\ntest ta n = fb"
        self.assertEqual(change(text, "fun fa 1 = 1\nfun fb 0 = 1\ntest ta n = fb"), [1, 0])
        self.assertEqual(change("fun fa 1 = 1\ntest ta n = 1", "fun fa 2 = 1\ntest ta n = 1"), [0])

    def test_a_function_of_another_name(self):
        self.assertEqual(change("fun fa 0 = 1\nfun fb 0 = 1\ntest ta n = fa",
                                "fun fb 0 = 1\nfun fc 0 = 1\nfun fa 0 = fb\ntest ta n = fa"), [1, 0])

    def test_a_test_that_was_a_function(self):
        self.assertEqual(change("fun ab 1 = 1", "test ab n = 1"), [1, 0])

    def test_functions_that_name_themselves(self):
        text = "fun ff 1 = unless a 1 ff sub a 1\nfun gg 1 = ff gg a\ntest ta n = gg a\ntest tb n = ff a\ntest tc n = 1"
        self.assertEqual(change(text, text), [0])
        self.assertEqual(change(text, text.replace("ff gg a", "gg ff a")), [1, 0])
        self.assertEqual(change(text, text.replace("unless a 1", "unless a 2")), [2, 0, 1])

    def test_shapes_that_read_like_a_name(self):
        text = "fun nn 0 = 1\ntest ta nn = 1\ntest tb nn = nn"
        self.assertEqual(change(text, text.replace("0 = 1", "0 = 2")), [1, 1])


class Held(unittest.TestCase):
    def test_just_ahead_of_this_one(self):
        other = TEXT.replace("far 0 = 5", "far 0 = 6")
        self.assertEqual(change(TEXT, other, TEXT), [1, 1])
        self.assertEqual(change(TEXT, other, other), [0])
        self.assertEqual(change(TEXT, TEXT, other), [1, 1])
        self.assertEqual(change(TEXT, "", TEXT), [3, 0, 1, 2])

    def test_a_refused_write_leaves_all(self):
        other = TEXT.replace("far 0 = 5", "far 0 = 6")
        for text in ("no", [256], [32] * 601, TEXT + "\nfun one 0 = 1", "test ta n = zz"):
            found = ask(write(TEXT), write(other), write(text), touched(), write(text), write(other), touched())
            self.assertLess(found[2][0], 0)
            self.assertEqual(found[3:4] + found[6:], [[1, 1], [0]])

    def test_between_writes_and_twice(self):
        other = TEXT.replace("less a 2", "less a 3")
        found = ask(touched(), write(TEXT), touched(), touched(), write(other), touched(), every(), touched())
        self.assertEqual(found, [[-3], [3, 3, 7], [3, 0, 1, 2], [3, 0, 1, 2], [3, 3, 7], [1, 2], [3, 1, 1, 1], [1, 2]])


def changed(source, text):
    """The same text with some rows left out, spoilt or moved."""
    rows = text.split("\n")
    for _ in range(source.randint(0, 2)):
        at = source.randrange(len(rows))
        words = rows[at].split()
        word = source.randrange(2, len(words))
        words[word] = {"0": "1", "1": "2", "2": "0", "add": "mul", "a": "b", "b": "a", "n": "b"}.get(words[word], words[word])
        rows[at] = " ".join(words)
    if source.random() < 0.3:
        source.shuffle(rows)
    if source.random() < 0.3:
        rows.pop(source.randrange(len(rows)))
    return "\n".join(rows)


class AgainstTheWords(unittest.TestCase):
    def test_many_changes(self):
        source = random.Random(19)
        sizes = {}
        for _ in range(1500):
            old = random_program(source)
            new = changed(source, old)
            if written(old)[0] < 0 or written(new)[0] < 0:
                continue
            expected = touched_by(old, new)
            sizes[len(expected)] = True
            self.assertEqual(change(old, new), [len(expected)] + expected, (old, new))
            self.same_if_untouched(old, new, expected)
        self.assertEqual(sorted(sizes), [0, 1, 2, 3, 4])

    def same_if_untouched(self, old, new, found):
        """What can't be touched comes to what it came to."""
        before = [row.split()[1] for row in old.split("\n") if row.startswith("test")]
        after = [row.split()[1] for row in new.split("\n") if row.startswith("test")]
        for k, name in enumerate(after):
            if k not in found:
                first, many = ask(write(old), test(before.index(name)), reach(before.index(name)))[1:]
                again, same = ask(write(new), test(k), reach(k))[1:]
                self.assertEqual((first, many[0]), (again, same[0]), (old, new))


if __name__ == "__main__":
    unittest.main()
