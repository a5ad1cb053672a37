"""The tokens of a source, taken one by one."""

from lineworks.errors import SourceError
from lineworks.tokens import place, tokens

RESERVED = (
    "table", "step", "int", "text", "truth", "from", "as", "left", "semi", "anti", "join", "on",
    "where", "group", "with", "select", "union", "except", "intersect", "count", "distinct", "sum",
    "min", "max", "or", "and", "not", "div", "mod", "null", "true", "false", "length", "missing",
    "starts", "coalesce", "if",
)


class Reader:
    """Stands in front of one token of a source and goes forward only."""

    def __init__(self, source):
        self.source = source
        # The token behind the last one lets an error tell the end of the source.
        self.found = tokens(source) + [("end", "", len(source))]
        self.at = 0

    def kind(self):
        """Returns the kind of the next token: a name and a reserved word are kinds of their own."""
        kind, value, _ = self.found[self.at]
        if kind != "word":
            return kind
        return "reserved" if value in RESERVED else "name"

    def ahead(self):
        """Returns the sign or the reserved word that comes next, otherwise an empty string."""
        if self.kind() in ("sign", "reserved"):
            return self.found[self.at][1]
        return ""

    def offset(self):
        """Returns the index at which the next token begins."""
        return self.found[self.at][2]

    def take(self):
        """Passes over the next token and returns its value."""
        value = self.found[self.at][1]
        self.at += 1
        return value

    def expect(self, word):
        """Passes over a sign or a reserved word that has to come next."""
        if self.ahead() != word:
            self.fail(f"expected {word}")
        self.at += 1

    def take_name(self):
        """Passes over a name that has to come next, and returns it."""
        if self.kind() != "name":
            self.fail("expected a name")
        return self.take()

    def expect_end(self):
        if self.kind() != "end":
            self.fail("expected the end")

    def fail(self, message):
        """Raises an error about the next token."""
        line, column = place(self.source, self.offset())
        raise SourceError(line, column, message)
