"""Going through the tokens of a text."""

from foretask.bounds import NESTING
from foretask.errors import TextFault

TOO_DEEP = "nested too deeply"


class Reader:
    """The place reached in a row of tokens, and what is open there."""

    def __init__(self, row):
        self.row = row
        self.at = 0
        self.brackets = 0
        self.blocks = 0
        self.prefixes = 0
        self.prefixes_end = 0

    def token(self):
        return self.row[self.at]

    def take(self):
        token = self.row[self.at]
        self.at += 1
        return token

    def sees(self, fixed):
        """Tells whether the sign or keyword stands here."""
        return is_fixed(self.row[self.at], fixed)

    def sees_call(self):
        """Tells whether a name and an opening parenthesis stand here."""
        return self.token()[0] == "name" and is_fixed(self.row[self.at + 1], "(")

    def accept(self, fixed):
        """Passes the sign or keyword if it stands here, and tells whether it does."""
        found = self.sees(fixed)
        if found:
            self.at += 1
        return found

    def expect(self, fixed):
        """Passes the sign or keyword, which must stand here."""
        if not self.accept(fixed):
            refuse(self.token(), f"expected {fixed}")

    def expect_name(self):
        """Passes a name, which must stand here, and returns it."""
        token = self.token()
        if token[0] != "name":
            refuse(token, "expected a name")
        self.at += 1
        return token[1]

    def take_prefix(self):
        """Passes an operator before an operand, and returns its token."""
        if self.prefixes_end != self.at:
            self.prefixes = 0
        token = self.take()
        self.prefixes += 1
        self.prefixes_end = self.at
        if self.prefixes > NESTING:
            refuse(token, TOO_DEEP)
        return token

    def open_bracket(self, sign):
        token = self.token()
        self.expect(sign)
        self.brackets += 1
        if self.brackets > NESTING:
            refuse(token, TOO_DEEP)

    def close_bracket(self, sign):
        self.expect(sign)
        self.brackets -= 1

    def open_block(self):
        token = self.token()
        self.expect("{")
        self.blocks += 1
        if self.blocks > NESTING:
            refuse(token, TOO_DEEP)

    def close_block(self):
        """Ends a block if it ends here, and tells whether it does."""
        found = self.accept("}")
        if found:
            self.blocks -= 1
        return found


def is_fixed(token, fixed):
    """Tells whether a token is this sign or keyword, and not a text with the same characters."""
    return token[0] in ("sign", "word") and token[1] == fixed


def refuse(token, reason):
    """Raises the fault that is found at a token."""
    raise TextFault(token[2], token[3], reason)
