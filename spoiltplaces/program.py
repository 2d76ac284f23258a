"""What a program is made of, once its text is read."""

# Words ahead of a row's expression: fun or test, the name, K or the shapes, and =.
AHEAD = 4

NUMBER = 0
HANDED = 1
OPERATION = 2
CHOICE = 3
CALL = 4


# A word of an expression. What it is about lies in what, by its kind: a number; which of those handed
# over (from 0 on); an operation's word; where in the code the expression of a function begins.
class Word:
    def __init__(self, kind, what, many):
        self.kind = kind
        self.what = what
        self.many = many
        self.parts = []


# Of a function or a test, row is the tuple of the words by which it is told.
class Function:
    def __init__(self, row, start):
        self.row = row
        self.many = int(row[2])
        self.start = start


class Test:
    def __init__(self, row, start):
        self.row = row
        self.shapes = row[2]
        self.start = start


# Where in the code a place lies, its function's number, which word of that one's expression it is, and
# how many are handed over there.
class Place:
    def __init__(self, position, function, which, many):
        self.position = position
        self.function = function
        self.which = which
        self.many = many


# The words of all expressions lie in one list, code, row by row as they are told, so that its position
# there is all that has to be known to come to a word. Names of functions and tests alike are in taken.
class Program:
    def __init__(self):
        self.code = []
        self.places = []
        self.functions = {}
        self.tests = []
        self.taken = {}
