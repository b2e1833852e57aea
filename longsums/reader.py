"""The calls of a line, read number by number from the list that is handed in."""


class Reader:
    def __init__(self, calls):
        self.calls = calls
        self.at = 0

    def has_more(self):
        return self.at < len(self.calls)

    def number(self):
        read = self.calls[self.at]
        self.at = self.at + 1
        return read

    def numbers(self):
        # The slice is a copy: nobody behind the reader holds the list that was handed in.
        size = self.number()
        read = self.calls[self.at:self.at + size]
        self.at = self.at + size
        return read
