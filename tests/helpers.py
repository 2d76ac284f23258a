"""Calls as numbers, answers taken apart, and a second, recursive way to run a program."""

from spoiltplaces.testers import answers


def row(numbers):
    return [len(numbers)] + list(numbers)


def write(text):
    numbers = list(text.encode("latin-1")) if isinstance(text, str) else list(text)
    return [0] + row(numbers)


def test(k):
    return [1, k]


def every():
    return [2]


def run(k, *values):
    numbers = []
    for value in values:
        numbers += [1] + row(value) if isinstance(value, list) else [0, value]
    return run_raw(k, numbers)


def run_raw(k, numbers):
    return [3, k] + row(numbers)


def reach(k):
    return [4, k]


def place(i):
    return [5, i]


def sees(i):
    return [6, i]


def unseen():
    return [7]


def fewest():
    return [8]


def touched():
    return [9]


def ask(*calls):
    """What each call answers, one list a call."""
    given = answers([number for call in calls for number in call])
    found = []
    at = 0
    while at < len(given):
        found.append(given[at + 1:at + 1 + given[at]])
        at += 1 + given[at]
    assert at == len(given) and len(found) == len(calls), (given, calls)
    return found


def written(text):
    return ask(write(text))[0]


def about(text, *calls):
    """What these calls answer about a program that is written first, and isn't refused."""
    found = ask(write(text), *calls)
    assert found[0][0] >= 0, found[0]
    return found[1:]


class Stop(Exception):
    pass


class Plain:
    """The words of a good text, run by plain recursion straight from the words."""

    def __init__(self, text):
        self.functions = {}
        self.tests = []
        self.base = {}
        places = 0
        for told in text.split("\n"):
            words = told.split()
            if words and words[0] == "fun":
                self.functions[words[1]] = (int(words[2]), words[4:])
                self.base[words[1]] = places
                places += len(words) - 4
            elif words:
                self.tests.append((words[2], words[4:]))

    def run(self, k, values):
        """1, steps, value, places; or 0, steps, why, places."""
        self.steps = 0
        self.places = set()
        try:
            value = self.come(None, self.tests[k][1], 0, values)[0]
        except Stop as stop:
            return (0, self.steps, stop.args[0], self.places)
        return (1, self.steps, value, self.places)

    def come(self, name, words, at, handed):
        """The value of what stands at this place, and where it ends."""
        if self.steps == 100:
            raise Stop(3)
        self.steps += 1
        if name is not None:
            self.places.add(self.base[name] + at)
        word = words[at]
        at += 1
        if word.isdigit():
            return int(word), at
        if word in ("a", "b", "c"):
            return handed["abc".index(word)], at
        if word in ("if", "unless"):
            first, at = self.come(name, words, at, handed)
            if isinstance(first, list):
                raise Stop(1)
            if (word == "if") == (first != 0):
                value, at = self.come(name, words, at, handed)
                return value, self.skip(words, at)
            return self.come(name, words, self.skip(words, at), handed)[0], self.skip(words, self.skip(words, at))
        parts = []
        for _ in range(self.arity(word)):
            part, at = self.come(name, words, at, handed)
            parts.append(part)
        if word in self.functions:
            return self.come(word, self.functions[word][1], 0, parts)[0], at
        return self.operate(word, parts), at

    def arity(self, word):
        if word in self.functions:
            return self.functions[word][0]
        known = {"if": 3, "unless": 3, "head": 1, "tail": 1, "isnil": 1}
        if word in known:
            return known[word]
        return 2 if word in ("add", "sub", "mul", "less", "same", "cons") else 0

    def skip(self, words, at):
        left = 1
        while left:
            left += self.arity(words[at]) - 1
            at += 1
        return at

    def operate(self, word, parts):
        kinds = "".join("l" if isinstance(part, list) else "n" for part in parts)
        wanted = {"cons": "nl", "head": "l", "tail": "l", "isnil": "l", "nil": "", "same": kinds}.get(word, "nn")
        if kinds != wanted:
            raise Stop(1)
        if word in ("head", "tail") and not parts[0]:
            raise Stop(2)
        if word == "cons" and len(parts[1]) == 10:
            raise Stop(4)
        return {
            "nil": lambda: [],
            "head": lambda: parts[0][0],
            "tail": lambda: parts[0][1:],
            "isnil": lambda: int(parts[0] == []),
            "cons": lambda: [parts[0]] + parts[1],
            "same": lambda: int(parts[0] == parts[1]),
            "add": lambda: (parts[0] + parts[1]) % 1000,
            "sub": lambda: max(0, parts[0] - parts[1]),
            "mul": lambda: parts[0] * parts[1] % 1000,
            "less": lambda: int(parts[0] < parts[1]),
        }[word]()
