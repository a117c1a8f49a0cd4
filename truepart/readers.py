"""Going through the tokens of a text."""

from truepart.tokens import refuse, tokens


class Reader:
    """Goes through the tokens of a text, one behind the other; refuses a token that cannot stand where it stands."""

    def __init__(self, text):
        self.text = text
        self.row = tokens(text)
        self.at = 0

    def place(self):
        """The index at which the next token begins, or at which it is missing."""
        if self.at == len(self.row):
            return len(self.text)
        return self.row[self.at][2]

    def taken_place(self):
        """The index at which the token begins that was taken last."""
        return self.row[self.at - 1][2]

    def refuse_next(self):
        """Tells that the next token is at fault, or missing."""
        refuse(self.text, self.place())

    def refuse_taken(self):
        """Tells that the token is at fault that was taken last."""
        refuse(self.text, self.taken_place())

    def stands(self, kind, content):
        """Whether the next token is this one."""
        return self.at < len(self.row) and self.row[self.at][:2] == (kind, content)

    def skip(self, kind, content):
        """Takes the next token if it is this one; returns whether it was."""
        if not self.stands(kind, content):
            return False
        self.at += 1
        return True

    def expect(self, kind, content):
        """Takes the next token, which must be this one."""
        if not self.skip(kind, content):
            self.refuse_next()

    def take(self, kind):
        """Takes the next token, which must be of this kind; returns its content."""
        if self.at == len(self.row) or self.row[self.at][0] != kind:
            self.refuse_next()
        self.at += 1
        return self.row[self.at - 1][1]

    def choose(self, kind, contents):
        """Takes the next token, which must be one of these; returns its content."""
        for content in contents:
            if self.skip(kind, content):
                return content
        self.refuse_next()

    def finish(self):
        """Refuses the next token if there is one."""
        if self.at < len(self.row):
            self.refuse_next()
