"""A caller: its calls, of which one at most is open, and what their answers told."""


class Caller:
    """Whoever asks the desk by letters."""

    def __init__(self, number):
        self.number = number
        self.begun = 0
        self.current = None
        self.closed = []

    def begin(self, key, wish):
        """Begin a call; its number."""
        self.begun = self.begun + 1
        self.current = (self.begun, key, wish)
        return self.begun

    def letter(self, house):
        """The letter of the open call, to this house."""
        number, key, wish = self.current
        return ("call", house, self.number, number, key, wish)

    def came(self, number, told):
        """Take in an answer: it closes the open call, or is passed over."""
        if self.current is not None and self.current[0] == number:
            self.closed.append((number, told))
            self.current = None

    def asking(self):
        """The open call, or None."""
        return self.current

    def answers(self):
        """The number of each closed call and what its answer told, in order."""
        return list(self.closed)
