"""Point 2: run, its steps, values, reasons and refusals."""

import itertools
import random
import unittest

from tests.helpers import Plain, about, ask, run, run_raw, written


def ran(row, *values):
    return about(row, run(0, *values))[0]


def number(row, *values):
    """Steps and value of a test whose expression comes to a number."""
    answer = ran(row, *values)
    assert answer[0] == 1 and answer[2] == 0 and len(answer) == 4, answer
    return (answer[1], answer[3])


class Values(unittest.TestCase):
    def test_words_without_parts(self):
        self.assertEqual(ran("test ab n = 99", 5), [1, 1, 0, 99])
        self.assertEqual(ran("test ab n = a", 999), [1, 1, 0, 999])
        self.assertEqual(ran("test ab nl = b", 5, [7, 8]), [1, 1, 1, 2, 7, 8])
        self.assertEqual(ran("test ab n = nil", 5), [1, 1, 1, 0])

    def test_add(self):
        self.assertEqual(number("test ab nn = add a b", 499, 500), (3, 999))
        self.assertEqual(number("test ab nn = add a b", 500, 500), (3, 0))
        self.assertEqual(number("test ab nn = add a b", 999, 999), (3, 998))

    def test_sub(self):
        self.assertEqual(number("test ab nn = sub a b", 9, 4), (3, 5))
        self.assertEqual(number("test ab nn = sub a b", 4, 4), (3, 0))
        self.assertEqual(number("test ab nn = sub a b", 4, 9), (3, 0))

    def test_mul(self):
        self.assertEqual(number("test ab nn = mul a b", 12, 12), (3, 144))
        self.assertEqual(number("test ab nn = mul a b", 999, 999), (3, 1))
        self.assertEqual(number("test ab nn = mul a b", 40, 25), (3, 0))

    def test_less(self):
        for first, second, value in ((3, 4, 1), (4, 4, 0), (5, 4, 0)):
            self.assertEqual(number("test ab nn = less a b", first, second), (3, value))

    def test_same(self):
        self.assertEqual(number("test ab nn = same a b", 4, 4), (3, 1))
        self.assertEqual(number("test ab nn = same a b", 4, 5), (3, 0))
        self.assertEqual(number("test ab ll = same a b", [1, 2], [1, 2]), (3, 1))
        self.assertEqual(number("test ab ll = same a b", [1, 2], [2, 1]), (3, 0))
        self.assertEqual(number("test ab ll = same a b", [], []), (3, 1))
        self.assertEqual(number("test ab ll = same a b", [1], [1, 1]), (3, 0))

    def test_same_of_a_number_and_a_list(self):
        self.assertEqual(number("test ab nl = same a b", 1, [1]), (3, 0))
        self.assertEqual(number("test ab ln = same a b", [], 0), (3, 0))

    def test_lists(self):
        self.assertEqual(ran("test ab nl = cons a b", 5, [6, 7]), [1, 3, 1, 3, 5, 6, 7])
        self.assertEqual(ran("test ab l = head a", [6, 7]), [1, 2, 0, 6])
        self.assertEqual(ran("test ab l = tail a", [6, 7]), [1, 2, 1, 1, 7])
        self.assertEqual(ran("test ab l = tail a", [6]), [1, 2, 1, 0])
        self.assertEqual(ran("test ab l = isnil a", []), [1, 2, 0, 1])
        self.assertEqual(ran("test ab l = isnil a", [0]), [1, 2, 0, 0])
        self.assertEqual(ran("test ab nl = cons a b", 0, [9] * 9), [1, 3, 1, 10, 0] + [9] * 9)

    def test_a_list_handed_in_stays(self):
        self.assertEqual(ran("test ab l = if isnil tail a a a", [6, 7]), [1, 5, 1, 2, 6, 7])

    def test_parts_in_order(self):
        self.assertEqual(number("test ab nn = sub sub a 1 sub b 2", 9, 5), (7, 5))
        self.assertEqual(ran("test ab n = cons a cons add a 1 nil", 5), [1, 7, 1, 2, 5, 6])


class Choices(unittest.TestCase):
    def test_if(self):
        self.assertEqual(number("test ab n = if a 7 8", 0), (3, 8))
        self.assertEqual(number("test ab n = if a 7 8", 1), (3, 7))
        self.assertEqual(number("test ab n = if a 7 8", 999), (3, 7))

    def test_unless(self):
        self.assertEqual(number("test ab n = unless a 7 8", 0), (3, 7))
        self.assertEqual(number("test ab n = unless a 7 8", 1), (3, 8))
        self.assertEqual(number("test ab n = unless a 7 8", 2), (3, 8))

    def test_what_isnt_come_to_makes_no_steps(self):
        self.assertEqual(number("test ab n = if a add add 1 2 3 head nil", 1), (7, 6))
        self.assertEqual(number("test ab n = if a head nil add 1 2", 0), (5, 3))
        self.assertEqual(number("test ab n = unless a 5 head nil", 0), (3, 5))
        self.assertEqual(number("test ab n = unless a head nil if 0 head nil 6", 4), (5, 6))

    def test_a_choice_of_lists(self):
        self.assertEqual(ran("test ab nl = if a b nil", 3, [4]), [1, 3, 1, 1, 4])


class Functions(unittest.TestCase):
    def test_handed_over(self):
        told = "fun pick 3 = sub sub a b c\nfun none 0 = 5\ntest ab nn = "
        self.assertEqual(number(told + "pick a b 1", 9, 4), (9, 4))
        self.assertEqual(number(told + "add none none", 0, 0), (5, 10))
        self.assertEqual(number(told + "sub pick b a none a", 2, 20), (12, 11))

    def test_parts_even_if_not_used(self):
        self.assertEqual(number("fun one 2 = 1\ntest ab n = one add a a a", 2), (6, 1))
        self.assertEqual(ran("fun one 1 = 1\ntest ab n = one head nil", 2), [0, 3, 2])

    def test_recursion(self):
        text = "fun size 1 = if isnil a 0 add 1 size tail a\ntest ab l = size a"
        self.assertEqual(number(text, []), (6, 0))
        self.assertEqual(number(text, [5, 6, 7]), (30, 3))

    def test_a_function_told_behind_a_test(self):
        text = "test ab n = 4\nfun one 1 = add a 1\ntest bc n = one one a"
        self.assertEqual(about(text, run(0, 0), run(1, 3)), [[1, 1, 0, 4], [1, 9, 0, 5]])


class NoValue(unittest.TestCase):
    def test_something_else_is_handed(self):
        for words in ("add nil 1", "add 1 nil", "sub nil 1", "sub 1 nil", "mul nil 1", "mul 1 nil", "less nil 1",
                      "less 1 nil", "less nil nil", "cons 1 1", "cons nil nil", "cons nil 1"):
            self.assertEqual(ran(f"test ab n = {words}", 0), [0, 3, 1], words)
        for words in ("head 1", "tail 1", "isnil 0", "if nil 1 2", "unless nil 1 2"):
            self.assertEqual(ran(f"test ab n = {words}", 0), [0, 2, 1], words)

    def test_head_and_tail_of_no_numbers(self):
        self.assertEqual(ran("test ab l = head a", []), [0, 2, 2])
        self.assertEqual(ran("test ab l = add 1 head tail a", [1]), [0, 5, 2])
        self.assertEqual(ran("test ab l = tail a", []), [0, 2, 2])

    def test_too_many_steps(self):
        self.assertEqual(ran("fun ff 0 = ff\ntest ab n = ff", 0), [0, 100, 3])
        self.assertEqual(ran("fun ff 1 = add 1 ff a\ntest ab n = ff a", 0), [0, 100, 3])

    def test_just_100_steps(self):
        down = "fun ff 1 = unless a 0 ff sub a 1\ntest ab n = "
        self.assertEqual(number(down + "add ff 15 0", 0), (97, 0))
        self.assertEqual(number(down + "add ff 15 isnil cons 1 nil", 0), (100, 0))
        self.assertEqual(ran(down + "add ff 15 isnil tail cons 1 nil", 0), [0, 100, 3])
        self.assertEqual(ran(down + "add ff 15 isnil cons 1 1", 0), [0, 100, 1])
        self.assertEqual(ran(down + "add ff 15 add 0 add 0 head nil", 0), [0, 100, 3])

    def test_too_long_a_list(self):
        self.assertEqual(ran("test ab l = cons 1 a", [0] * 10), [0, 3, 4])
        self.assertEqual(ran("test ab l = cons a a", [0] * 10), [0, 3, 1])
        self.assertEqual(ran("fun ff 1 = ff cons 1 a\ntest ab l = ff a", [0] * 9), [0, 10, 4])

    def test_the_first_reason_ends_it(self):
        self.assertEqual(ran("test ab n = add head nil head 1", 0), [0, 3, 2])
        self.assertEqual(ran("test ab n = add head 1 head nil", 0), [0, 3, 1])
        self.assertEqual(ran("test ab n = add nil head nil", 0), [0, 4, 2])


class Refusals(unittest.TestCase):
    def check(self, shapes, numbers, granted=False):
        answer = about(f"test ab {shapes} = 1", run_raw(0, numbers))[0]
        self.assertEqual(answer, [1, 1, 0, 1] if granted else [-1], (shapes, numbers))

    def test_as_many(self):
        self.check("n", [])
        self.check("n", [0, 1, 0, 1])
        self.check("nn", [0, 1])
        self.check("nn", [0, 1, 0, 1, 0, 1])
        self.check("nn", [0, 1, 0, 1], True)
        self.check("ll", [1, 0])
        self.check("ll", [1, 0, 1, 0], True)
        self.check("ln", [1, 0, 0, 1, 0])

    def test_cut_off(self):
        self.check("n", [0])
        self.check("l", [1])
        self.check("l", [1, 1])
        self.check("l", [1, 3, 1, 2])
        self.check("ln", [1, 2, 0, 0])
        self.check("nn", [0, 1, 0])

    def test_numbers(self):
        for shape in "nb":
            self.check(shape, [0, 0], True)
            self.check(shape, [0, 999], True)
            self.check(shape, [0, 1000])
            self.check(shape, [0, 4294967295])
            self.check(shape, [1, 0])
            self.check(shape, [2, 0])

    def test_lists(self):
        self.check("l", [1, 10] + [999] * 10, True)
        self.check("l", [1, 11] + [0] * 11)
        self.check("l", [1, 2, 0, 1000])
        self.check("l", [1, 1, 4294967295])
        self.check("l", [0, 0])
        self.check("l", [2, 0])
        self.check("l", [1, 4294967295])
        self.check("l", [1, 0, 0])

    def test_shapes_in_order(self):
        self.check("nl", [0, 1, 1, 1, 7], True)
        self.check("nl", [1, 1, 7, 0, 1])
        self.check("lb", [1, 1, 7, 0, 2], True)
        self.check("ll", [1, 10] + [1] * 10 + [1, 10] + [1] * 10, True)

    def test_all_short_rows_of_numbers(self):
        granted = {"n": [[0, 0], [0, 1], [0, 2]], "l": [[1, 0], [1, 1, 0], [1, 1, 1], [1, 1, 2]]}
        granted["l"] += [[1, 2, x, y] for x in (0, 1, 2) for y in (0, 1, 2)]
        for shapes in ("n", "l", "nn", "nl", "ln", "ll"):
            good = granted[shapes[0]]
            if len(shapes) == 2:
                good = [one + other for one in good for other in granted[shapes[1]]]
            for many in range(6):
                for numbers in itertools.product((0, 1, 2, 1000), repeat=many):
                    self.check(shapes, list(numbers), list(numbers) in good)

    def test_forty_numbers(self):
        self.check("ll", [1, 10] + [1] * 38)

    def test_no_such_test_is_ahead(self):
        self.assertEqual(ask(run_raw(0, []), run_raw(7, [0, 1])), [[-2], [-2]])
        self.assertEqual(about("test ab n = 1", run_raw(1, [9, 9]), run_raw(4294967295, [0, 1])), [[-2], [-2]])


def random_words(source, functions, many, left):
    """Words of an expression, as a list, in about so many words."""
    leaves = ["0", "1", "2", "10", "nil"] + ["a", "b", "c"][:many] * 3
    if left <= 1:
        return [source.choice(leaves)]
    inner = {"add": 2, "sub": 2, "mul": 2, "less": 2, "same": 2, "cons": 2, "if": 3, "unless": 3,
             "head": 1, "tail": 1, "isnil": 1}
    inner.update(functions)
    word = source.choice(sorted(inner) + sorted(functions) * 3)
    words = [word]
    for _ in range(inner[word]):
        words += random_words(source, functions, many, (left - 1) // max(1, inner[word]))
    return words


def random_text(source):
    functions = {}
    rows = []
    for name in ("ff", "gg", "hh")[:source.randint(1, 3)]:
        many = source.randint(0, 3)
        functions[name] = many
        rows.append(f"fun {name} {many} = " + " ".join(random_words(source, functions, many, 10)))
    shapes = source.choice(["n", "l", "b", "nl", "ln", "ll", "nn"])
    rows.append(f"test tt {shapes} = " + " ".join(random_words(source, functions, len(shapes), 8)))
    return shapes, "\n".join(rows)


class AgainstRecursion(unittest.TestCase):
    def test_many_programs(self):
        source = random.Random(7)
        seen = {}
        for _ in range(1500):
            shapes, text = random_text(source)
            if written(text)[0] < 0:
                continue
            values = [[source.randint(0, 3) for _ in range(source.randint(0, 10))] if shape == "l"
                      else source.randint(0, 5) for shape in shapes]
            kind, steps, outcome, _ = Plain(text).run(0, values)
            if kind == 1:
                outcome = [1, len(outcome)] + outcome if isinstance(outcome, list) else [0, outcome]
            else:
                seen[outcome] = True
                outcome = [outcome]
            self.assertEqual(ran(text, *values), [kind, steps] + outcome, (text, values))
        self.assertEqual(sorted(seen), [1, 2, 3, 4])


if __name__ == "__main__":
    unittest.main()
