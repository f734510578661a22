"""Values and trees that several files need."""

NONE = ("none",)
# The tree of the constant none.
NOTHING = ("const", ("none",))
