"""Values and trees that several files need."""

NONE = ("none",)
# The object with the variables of the program.
TOP = ("object", (), 0)
# The tree of the constant none.
NOTHING = ("const", ("none",))
