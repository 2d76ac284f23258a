"""Why an expression has no value, as the answers number it."""

NONE = 0
MISFIT = 1
EMPTY = 2
STEPS = 3
LENGTH = 4
