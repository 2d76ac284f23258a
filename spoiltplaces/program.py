"""What a program is made of, once its text is read."""

NUMBER = 0
HANDED = 1
OPERATION = 2
CHOICE = 3
CALL = 4


# A word of an expression. What it is about lies in what, by its kind: a number; which of those handed
# over (from 0 on); an operation's word; where in the code the expression of a function begins.
class Word:
    def __init__(self, kind, what, many):
        self.kind = kind
        self.what = what
        self.many = many
        self.parts = []


class Function:
    def __init__(self, many, start):
        self.many = many
        self.start = start


class Test:
    def __init__(self, shapes, start):
        self.shapes = shapes
        self.start = start


# The words of all expressions lie in one list, code, row by row as they are told, so that its position
# there is all that has to be known to come to a word; places says where in it each place lies. Names
# of functions and tests alike are in taken.
class Program:
    def __init__(self):
        self.code = []
        self.places = []
        self.functions = {}
        self.tests = []
        self.taken = {}
