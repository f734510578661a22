"""How strongly operators bind: the levels of expressions, from the weakest to the strongest."""

# The operators that stand between two operands.
BETWEEN = {
    "or": 0, "and": 1,
    "<": 3, "<=": 3, ">": 3, ">=": 3, "==": 3, "!=": 3,
    "&": 4, "+": 5, "-": 5, "*": 6, "/": 6, "mod": 6,
}
WEAKEST = 0
NOT = 2
COMPARISON = 3
MINUS = 7
TERM = 8


def left_level(level):
    """Returns the least level that the left operand of an operator of this level may have."""
    # Comparisons do not associate: none stands bare on either side of another one.
    return level + 1 if level == COMPARISON else level
