"""A second way to tell what is seen and touched, from the words of a good text; and texts to try it on."""

import itertools

from tests.helpers import Plain
from tests.test_run import random_words
from tests.test_test import VALUES

SPOILT = {"add": "sub", "sub": "add", "less": "same", "same": "less", "if": "unless", "unless": "if", "mul": "add"}


def rows(text):
    return [row.split() for row in text.split("\n") if row.split()]


def spoilt_word(word, many):
    if word.isdigit():
        return "0" if word == "99" else str(int(word) + 1)
    if word in "abc":
        return {2: {"a": "b", "b": "a"}, 3: {"a": "b", "b": "c", "c": "a"}}.get(many, {}).get(word)
    return SPOILT.get(word)


def spoilt_texts(text):
    """For each place: its function, which word it is, and the text spoilt there, or None."""
    told = rows(text)
    found = []
    for number, words in enumerate([words for words in told if words[0] == "fun"]):
        for at in range(4, len(words)):
            other = spoilt_word(words[at], int(words[2]))
            changed = words[:at] + [other] + words[at + 1:]
            spoilt = None
            if other is not None:
                spoilt = "\n".join(" ".join(changed if row is words else row) for row in told)
            found.append((number, at - 4, spoilt))
    return found


def holds(text):
    """For each test whether it holds, by recursion."""
    plain = Plain(text)
    found = []
    for k, (shapes, _) in enumerate(plain.tests):
        inputs = itertools.product(*[VALUES[shape] for shape in shapes])
        found.append(all(plain.run(k, list(values))[:3:2] == (1, 1) for values in inputs))
    return found


def sights(text):
    """For each place the tests that see it, or None."""
    whole = holds(text)
    found = []
    for _, _, spoilt in spoilt_texts(text):
        if spoilt is None:
            found.append(None)
        else:
            left = holds(spoilt)
            found.append([k for k in range(len(whole)) if whole[k] and not left[k]])
    return found


def fewest_of(seen, many):
    for size in range(many + 1):
        for row in itertools.combinations(range(many), size):
            if all(set(row) & set(sight) for sight in seen if sight):
                return list(row)


def touched_by(old, new):
    """The tests that the change can touch: a set of touched names grows until it doesn't."""
    told = rows(old)
    names = {words[1] for words in rows(new) if words not in told}
    while True:
        more = {words[1] for words in rows(new) if set(words[4:]) & names} | names
        if more == names:
            break
        names = more
    tests = [words[1] for words in rows(new) if words[0] == "test"]
    return [k for k, name in enumerate(tests) if name in names]


def number_words(source, functions, many, left):
    """An expression mostly over numbers, so that it often has a value."""
    if left <= 1:
        return [source.choice(["0", "1", "2", "3", "99"] + ["a", "b", "c"][:many] * 3)]
    inner = {"add": 2, "sub": 2, "mul": 2, "less": 2, "same": 2, "if": 3, "unless": 3}
    inner.update(functions)
    word = source.choice(sorted(inner) + sorted(functions) * 5)
    words = [word]
    for _ in range(inner[word]):
        words += number_words(source, functions, many, (left - 1) // max(1, inner[word]))
    return words


def holding_words(source, told, functions):
    """An expression that comes to 1 for all inputs, or None: calls, and what they come to."""
    for _ in range(20):
        call = " ".join(number_words(source, functions, 0, source.choice([3, 5, 8])))
        kind, _, value, _ = Plain("\n".join(told + [f"test tt n = {call}"])).run(0, [0])
        if kind == 1 and isinstance(value, int) and value < 99 and len(call.split()) < 15:
            return source.choice([f"same {call} {value}", f"if a same {value} {call} 1", f"less {call} {value + 1}"])
    return None


def random_program(source):
    """A text of some functions and up to four tests, of which many hold; some texts are too long."""
    functions = {}
    told = []
    for name in ("ff", "gg", "nn", "hh")[:source.randint(1, 4)]:
        many = source.randint(0, 3)
        known = dict(functions)
        if source.random() < 0.3:
            known[name] = many
        maker = random_words if source.random() < 0.3 else number_words
        words = " ".join(maker(source, known, many, source.choice([3, 5, 8])))
        functions[name] = many
        told.append(f"fun {name} {many} = {words}")
    tests = []
    for name in ("ta", "tb", "tc", "td")[:source.randint(0, 4)]:
        words = holding_words(source, told, functions) if source.random() < 0.9 else None
        if words is None:
            words = " ".join(random_words(source, functions, 1, 6))
        tests.append(f"test {name} {source.choice(['n', 'b', 'nn', 'bl'])} = {words}")
    return "\n".join(told + tests)
