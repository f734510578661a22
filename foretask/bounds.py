"""The bounds of programs and of their values."""

# Program texts.
TEXT_CHARACTERS = 8000
NAME_CHARACTERS = 20
NUMBER_DIGITS = 60
LITERAL_CHARACTERS = 100

# Trees and code.
NESTING = 10
LEVELS_OF_TREE = 30
INSTRUCTIONS = 2000

# Values of runs. INTEGER is the least absolute value that is too large.
INTEGER = 10 ** 60
RUN_CHARACTERS = 200
ITEMS = 40

# Runs: how many calls there are within one another.
CALLS = 12
