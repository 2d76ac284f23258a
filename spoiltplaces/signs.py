"""From bytes to rows of words, and what kind of word one is."""

LETTERS = "abcdefghijklmnopqrstuvwxyz"
DIGITS = "0123456789"

# How many parts each operation has.
PARTS = {
    "add": 2,
    "sub": 2,
    "mul": 2,
    "less": 2,
    "same": 2,
    "cons": 2,
    "if": 3,
    "unless": 3,
    "head": 1,
    "tail": 1,
    "isnil": 1,
    "nil": 0,
}


# All bytes that no word with a meaning has may become one sign: such a word is a fault, whatever they are.
def sign(byte):
    if byte == 10:
        return "\n"
    if byte == 32:
        return " "
    if byte == 61:
        return "="
    if 48 <= byte <= 57:
        return DIGITS[byte - 48]
    if 97 <= byte <= 122:
        return LETTERS[byte - 97]
    return "?"


def words_of(row):
    return [word for word in row.split(" ") if word != ""]


def rows_of(numbers):
    text = "".join([sign(byte) for byte in numbers])
    return [words_of(row) for row in text.split("\n")]


def is_number(word):
    if not word.isdigit() or len(word) > 2:
        return False
    return len(word) == 1 or word[0] != "0"


def is_name(word):
    if len(word) < 2 or len(word) > 8 or word in ("fun", "test") or word in PARTS:
        return False
    return all([letter in LETTERS for letter in word])
